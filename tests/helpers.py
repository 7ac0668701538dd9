"""How the tests write calls, and a second way of setting a book, with real texts, to compare with."""

from truerefs.book import answers

FIRST_FRAME = (60, 30, 1, 4, 16, 5)
HUGE = 4294967295


def begins(wide, high, first_page=1, here=4, next_page=16, before=5):
    return [0, 6, wide, high, first_page, here, next_page, before, 0]


def para(begins_page, *words):
    numbers = [number for word in words for number in word]
    return [1, 1 + len(numbers), begins_page] + numbers + [0]


def pass_(n):
    return [2, 1, n, 0]


def settles():
    return [3, 0, 0]


def lines(n):
    return [4, 1, n, 0]


def shown(n):
    return [5, 1, n, 0]


def trues():
    return [6, 0, 0]


def open_():
    return [7, 0, 0]


def plain(length, own=0):
    return (0, length, own)


def digits(mark, own=0):
    return (1, mark, own)


def roman(mark, own=0):
    return (2, mark, own)


def how_far(mark, own=0):
    return (3, mark, own)


def ask(*calls):
    """Each call's answer, a list a call."""
    given = answers([number for call in calls for number in call])
    parted = []
    place = 0
    while place < len(given):
        parted.append(given[place + 1:place + 1 + given[place]])
        place += 1 + given[place]
    assert place == len(given) and len(parted) == len(calls), given
    return parted


def last(*calls):
    """The last call's answer."""
    return ask(*calls)[-1]


def roman_text(number):
    text = ""
    for value, signs in ((1000, "m"), (900, "cm"), (500, "d"), (400, "cd"), (100, "c"), (90, "xc"), (50, "l"),
                         (40, "xl"), (10, "x"), (9, "ix"), (5, "v"), (4, "iv"), (1, "i")):
        while number >= value:
            text += signs
            number -= value
    return text


def text_of(frame, word, own_page, mark_page):
    kind, told = word[0], word[1]
    here, next_page, before = frame[3:]
    if kind == 0:
        return "p" * told
    if mark_page == 0 or (kind == 3 and own_page == 0):
        return "?"
    if kind == 1:
        return str(mark_page)
    if kind == 2:
        return roman_text(mark_page)
    if mark_page - own_page in (0, 1):
        return "h" * here if mark_page == own_page else "n" * next_page
    return "b" * before + str(mark_page)


def texts_of(frame, paragraphs, setting):
    """Each word's text in a setting."""
    words = [word for begins_page, words in paragraphs for word in words]
    where = {word[2]: number for number, word in enumerate(words) if word[2]}
    texts = []
    for number, word in enumerate(words):
        mark_page = setting[where[word[1]]] if word[0] and word[1] in where else 0
        texts.append(text_of(frame, word, setting[number], mark_page))
    return texts


def lines_by_texts(frame, paragraphs, setting):
    """The book's lines from the first on, those without words too, each a list of its words' numbers."""
    wide, high = frame[:2]
    texts = texts_of(frame, paragraphs, setting)
    found = []
    number = 0
    for begins_page, words in paragraphs:
        while begins_page and len(found) % high:
            found.append([])
        for k in range(len(words)):
            if k and len(" ".join([texts[other] for other in found[-1]] + [texts[number]])) <= wide:
                found[-1].append(number)
            else:
                found.append([number])
            number += 1
    return found


def set_once(frame, paragraphs, setting):
    """One pass, with a book kept as lines of texts."""
    high, first_page = frame[1:3]
    return [first_page + line // high for line, numbers in enumerate(lines_by_texts(frame, paragraphs, setting))
            for number in numbers]


def settings_by_texts(frame, paragraphs, n):
    """The settings behind 0 to n passes."""
    settings = [[0] * sum(len(words) for begins_page, words in paragraphs)]
    while len(settings) <= n:
        settings.append(set_once(frame, paragraphs, settings[-1]))
    return settings


def book_of(frame, paragraphs):
    """The calls that make this book."""
    return [begins(*frame)] + [para(begins_page, *words) for begins_page, words in paragraphs]


def random_book(rng):
    frame = (rng.randint(1, 25), rng.randint(1, 4), rng.choice((1, 1, 2, 7, 8, 98, 398, 2997)),
             rng.randint(1, 20), rng.randint(1, 20), rng.randint(0, 9))
    own_marks = list(range(1, 7)) + [0] * rng.randint(0, 40)
    rng.shuffle(own_marks)
    paragraphs = []
    while own_marks:
        words = []
        for own in own_marks[:rng.randint(1, 12)]:
            kind = rng.randint(0, 3)
            words.append((kind, rng.randint(1, 12) if kind == 0 else rng.randint(1, 7), own))
        own_marks = own_marks[len(words):]
        paragraphs.append((rng.randint(0, 3) // 3, words))
    return frame, paragraphs

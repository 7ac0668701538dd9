"""How long a page's number is, and how long a word is in a setting."""

PLAIN = 0
DIGITS = 1
ROMAN = 2

NOT_KNOWN = 0
LENGTH_NOT_KNOWN = 1

# Ones, tens and hundreds are written after one pattern, so a digit takes as many signs in each of these places.
ROMAN_SIGNS = (0, 1, 2, 3, 2, 1, 2, 3, 4, 2)


def digits_length(page):
    return len(str(page))


def roman_length(page):
    length = page // 1000
    rest = page % 1000
    while rest > 0:
        length += ROMAN_SIGNS[rest % 10]
        rest = rest // 10
    return length


def how_far_length(frame, own_page, mark_page):
    if own_page == NOT_KNOWN:
        return LENGTH_NOT_KNOWN
    if mark_page == own_page:
        return frame.here
    if mark_page == own_page + 1:
        return frame.next_page
    return frame.before + digits_length(mark_page)


def mark_page_in(marks, mark, setting):
    if mark in marks:
        return setting[marks[mark]]
    return NOT_KNOWN


def reference_length(frame, kind, own_page, mark_page):
    if mark_page == NOT_KNOWN:
        return LENGTH_NOT_KNOWN
    if kind == DIGITS:
        return digits_length(mark_page)
    if kind == ROMAN:
        return roman_length(mark_page)
    return how_far_length(frame, own_page, mark_page)


def word_lengths(frame, words, marks, setting):
    lengths = []
    for word, own_page in zip(words, setting):
        if word.kind == PLAIN:
            lengths.append(word.told)
        else:
            mark_page = mark_page_in(marks, word.told, setting)
            lengths.append(reference_length(frame, word.kind, own_page, mark_page))
    return lengths

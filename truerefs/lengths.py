"""What a reference tells in a setting, and how long a word is there."""

from truerefs.words import DIGITS, HOW_FAR, PLAIN, ROMAN

NOT_KNOWN = 0
LENGTH_NOT_KNOWN = 1

TELLS_NOTHING = 0
TELLS_PAGE = 1
TELLS_HERE = 2
TELLS_NEXT_PAGE = 3

# Ones, tens and hundreds are written after one pattern, so a digit takes as many signs in each of these places.
ROMAN_SIGNS = (0, 1, 2, 3, 2, 1, 2, 3, 4, 2)


def digits_length(page):
    return len(str(page))


def roman_length(page):
    length = page // 1000
    rest = page % 1000
    while rest > 0:
        length += ROMAN_SIGNS[rest % 10]
        rest = rest // 10
    return length


def number_length(frame, kind, page):
    if kind == DIGITS:
        return digits_length(page)
    if kind == ROMAN:
        return roman_length(page)
    return frame.before + digits_length(page)


def what_is_told(kind, own_page, mark_page):
    if mark_page == NOT_KNOWN:
        return TELLS_NOTHING
    if kind != HOW_FAR:
        return TELLS_PAGE
    if own_page == NOT_KNOWN:
        return TELLS_NOTHING
    if mark_page == own_page:
        return TELLS_HERE
    if mark_page == own_page + 1:
        return TELLS_NEXT_PAGE
    return TELLS_PAGE


def reference_length(frame, kind, own_page, mark_page):
    told = what_is_told(kind, own_page, mark_page)
    if told == TELLS_PAGE:
        return number_length(frame, kind, mark_page)
    if told == TELLS_HERE:
        return frame.here
    if told == TELLS_NEXT_PAGE:
        return frame.next_page
    return LENGTH_NOT_KNOWN


def mark_page_in(marks, mark, setting):
    if mark in marks:
        return setting[marks[mark]]
    return NOT_KNOWN


def word_lengths(frame, words, marks, setting):
    lengths = []
    for word, own_page in zip(words, setting):
        if word.kind == PLAIN:
            lengths.append(word.told)
        else:
            mark_page = mark_page_in(marks, word.told, setting)
            lengths.append(reference_length(frame, word.kind, own_page, mark_page))
    return lengths

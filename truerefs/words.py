"""The words of a book, as they're told."""

PLAIN = 0
DIGITS = 1
ROMAN = 2
HOW_FAR = 3

MOST_LENGTH = 200
MOST_MARK = 20
NO_MARK = 0


class Word:
    """What is told of a word: its length, if it's plain, else the mark that it tells of."""

    def __init__(self, kind, told, own_mark):
        self.kind = kind
        self.told = told
        self.own_mark = own_mark


def words_told(numbers):
    return [Word(numbers[k], numbers[k + 1], numbers[k + 2]) for k in range(0, len(numbers), 3)]


def word_is_allowed(word):
    most = MOST_LENGTH if word.kind == PLAIN else MOST_MARK
    return 1 <= word.told <= most and word.own_mark <= MOST_MARK


def has_mark_twice(marks, words):
    own_marks = [word.own_mark for word in words if word.own_mark != NO_MARK]
    if len(set(own_marks)) < len(own_marks):
        return True
    return any([mark in marks for mark in own_marks])


def marks_told_of(words):
    """Each mark that references tell of, once, in the order in which they're told of first."""
    told_of = {}
    for word in words:
        if word.kind != PLAIN:
            told_of[word.told] = True
    return list(told_of)

"""A book, and the calls about it."""

from truerefs.frame import first_frame, frame_is_allowed, frame_of
from truerefs.lengths import NOT_KNOWN, PLAIN
from truerefs.passes import MOST_PASSES, course_of

BEGINS = 0
PARA = 1
PASS = 2
SETTLES = 3

OUT_OF_RANGE = -1
MARK_TWICE = -3
TOO_MANY = -5
NEVER_AGAIN = -7

MOST_WORDS = 200
MOST_LENGTH = 200
MOST_MARK = 20
NO_MARK = 0


class Word:
    """What is told of a word: its length, if it's plain, else the mark that it tells of."""

    def __init__(self, kind, told, own_mark):
        self.kind = kind
        self.told = told
        self.own_mark = own_mark


class Book:
    """A frame and words, the numbers of those that begin paragraphs, and of those that have marks."""

    def __init__(self, frame):
        self.begin_again(frame)

    def begin_again(self, frame):
        self.frame = frame
        self.words = []
        self.openings = {}
        self.marks = {}
        self.known_course = None

    def add_paragraph(self, begins_page, added):
        self.openings[len(self.words)] = begins_page
        for word in added:
            if word.own_mark != NO_MARK:
                self.marks[word.own_mark] = len(self.words)
            self.words.append(word)
        self.known_course = None

    def course(self):
        # Many calls may ask about a book that stays the same: its passes are made once.
        if self.known_course is None:
            self.known_course = course_of(self)
        return self.known_course


def words_told(numbers):
    return [Word(numbers[k], numbers[k + 1], numbers[k + 2]) for k in range(0, len(numbers), 3)]


def word_is_allowed(word):
    most = MOST_LENGTH if word.kind == PLAIN else MOST_MARK
    return 1 <= word.told <= most and word.own_mark <= MOST_MARK


def has_mark_twice(marks, words):
    own_marks = [word.own_mark for word in words if word.own_mark != NO_MARK]
    if len(set(own_marks)) < len(own_marks):
        return True
    return any([mark in marks for mark in own_marks])


def answer_begins(book, numbers):
    frame = frame_of(numbers)
    if not frame_is_allowed(frame):
        return [OUT_OF_RANGE]
    book.begin_again(frame)
    return [0]


def answer_para(book, numbers):
    words = words_told(numbers[1:])
    if len(words) == 0 or not all([word_is_allowed(word) for word in words]):
        return [OUT_OF_RANGE]
    if has_mark_twice(book.marks, words):
        return [MARK_TWICE]
    if len(book.words) + len(words) > MOST_WORDS:
        return [TOO_MANY]
    book.add_paragraph(numbers[0], words)
    return [len(book.words)]


def answer_pass(book, numbers):
    n = numbers[0]
    if n > MOST_PASSES:
        return [OUT_OF_RANGE]
    return [len(book.words)] + book.course().setting_behind(n)


def last_page(setting):
    if len(setting) == 0:
        return NOT_KNOWN
    return setting[-1]


def answer_settles(book):
    course = book.course()
    if course.back is None:
        return [NEVER_AGAIN]
    if course.ring_length() == 1:
        return [0, course.back, last_page(course.settings[-1])]
    return [1, course.back, course.ring_length()]


def answer_call(book, call, numbers):
    if call == BEGINS:
        return answer_begins(book, numbers)
    if call == PARA:
        return answer_para(book, numbers)
    if call == PASS:
        return answer_pass(book, numbers)
    if call == SETTLES:
        return answer_settles(book)
    raise NotImplementedError(f"no call has the number {call}")


def answers(calls):
    """Answers the calls about one new book: for each, how many numbers are answered, then these."""
    book = Book(first_frame())
    answered = []
    place = 0
    while place < len(calls):
        numbers_begin = place + 2
        numbers_end = numbers_begin + calls[place + 1]
        answer = answer_call(book, calls[place], calls[numbers_begin:numbers_end])
        answered.append(len(answer))
        answered.extend(answer)
        # Behind its numbers a call tells how many lists it has: none has any, so the next call follows.
        place = numbers_end + 1
    return answered

"""A book, and the calls about it."""

from truerefs.frame import first_frame, frame_is_allowed, frame_of
from truerefs.lengths import NOT_KNOWN, TELLS_PAGE, mark_page_in, what_is_told, word_lengths
from truerefs.passes import MOST_PASSES, course_of, lines_by, page_of_line
from truerefs.trues import first_setting, has_too_many_tries, true_settings
from truerefs.words import NO_MARK, PLAIN, has_mark_twice, marks_told_of, word_is_allowed, words_told

BEGINS = 0
PARA = 1
PASS = 2
SETTLES = 3
LINES = 4
SHOWN = 5
TRUES = 6

OUT_OF_RANGE = -1
MARK_TWICE = -3
TOO_MANY = -5
NEVER_AGAIN = -7

MOST_WORDS = 200


class Book:
    """A frame and words, the numbers of those that begin paragraphs, and of those that have marks."""

    def __init__(self, frame):
        self.begin_again(frame)

    def begin_again(self, frame):
        self.frame = frame
        self.words = []
        self.openings = {}
        self.marks = {}
        self.known_course = None

    def add_paragraph(self, begins_page, added):
        self.openings[len(self.words)] = begins_page
        for word in added:
            if word.own_mark != NO_MARK:
                self.marks[word.own_mark] = len(self.words)
            self.words.append(word)
        self.known_course = None

    def course(self):
        # Many calls may ask about a book that stays the same: its passes are made once.
        if self.known_course is None:
            self.known_course = course_of(self)
        return self.known_course


def answer_begins(book, numbers):
    frame = frame_of(numbers)
    if not frame_is_allowed(frame):
        return [OUT_OF_RANGE]
    book.begin_again(frame)
    return [0]


def answer_para(book, numbers):
    words = words_told(numbers[1:])
    if len(words) == 0 or not all([word_is_allowed(word) for word in words]):
        return [OUT_OF_RANGE]
    if has_mark_twice(book.marks, words):
        return [MARK_TWICE]
    if len(book.words) + len(words) > MOST_WORDS:
        return [TOO_MANY]
    book.add_paragraph(numbers[0], words)
    return [len(book.words)]


def last_page(setting):
    if len(setting) == 0:
        return NOT_KNOWN
    return setting[-1]


def answer_settles(book):
    course = book.course()
    if course.back is None:
        return [NEVER_AGAIN]
    if course.ring_length() == 1:
        return [0, course.back, last_page(course.settings[-1])]
    return [1, course.back, course.ring_length()]


def pages_answered(setting):
    return [len(setting)] + setting


def lines_answered(book, setting):
    lines = lines_by(book, setting)
    first_words = [number for number, line in enumerate(lines) if number == 0 or lines[number - 1] != line]
    answer = [len(first_words)]
    for number in first_words:
        line = lines[number]
        answer.extend([number, page_of_line(book.frame, line), line % book.frame.high])
    return answer


def what_reference_tells(book, setting, number):
    word = book.words[number]
    mark_page = mark_page_in(book.marks, word.told, setting)
    told = what_is_told(word.kind, setting[number], mark_page)
    if told == TELLS_PAGE:
        return [told, mark_page]
    return [told]


def references_answered(book, setting):
    lengths = word_lengths(book.frame, book.words, book.marks, setting)
    references = [number for number, word in enumerate(book.words) if word.kind != PLAIN]
    answer = [len(references)]
    for number in references:
        answer.extend([number, lengths[number]])
        answer.extend(what_reference_tells(book, setting, number))
    return answer


def answer_behind_passes(book, call, n):
    if n > MOST_PASSES:
        return [OUT_OF_RANGE]
    setting = book.course().setting_behind(n)
    if call == PASS:
        return pages_answered(setting)
    if call == LINES:
        return lines_answered(book, setting)
    return references_answered(book, setting)


def answer_trues(book):
    if has_too_many_tries(book):
        return [TOO_MANY]
    settings = true_settings(book)
    if len(settings) == 0:
        return [0]
    return [len(settings)] + first_setting(settings)


def answer_missing_marks(book):
    missing = [mark for mark in marks_told_of(book.words) if mark not in book.marks]
    return [len(missing)] + missing


def answer_call(book, call, numbers):
    if call == BEGINS:
        return answer_begins(book, numbers)
    if call == PARA:
        return answer_para(book, numbers)
    if call in (PASS, LINES, SHOWN):
        return answer_behind_passes(book, call, numbers[0])
    if call == SETTLES:
        return answer_settles(book)
    if call == TRUES:
        return answer_trues(book)
    return answer_missing_marks(book)


def answers(calls):
    """Answers the calls about one new book: for each, how many numbers are answered, then these."""
    book = Book(first_frame())
    answered = []
    place = 0
    while place < len(calls):
        numbers_begin = place + 2
        numbers_end = numbers_begin + calls[place + 1]
        answer = answer_call(book, calls[place], calls[numbers_begin:numbers_end])
        answered.append(len(answer))
        answered.extend(answer)
        # Behind its numbers a call tells how many lists it has: none has any, so the next call follows.
        place = numbers_end + 1
    return answered

"""Passes: a book set again and again, beginning with the setting in which nothing is known."""

from truerefs.lengths import NOT_KNOWN, word_lengths

MOST_PASSES = 400


def paragraph_line(frame, line, begins_page):
    """The line in which a paragraph begins, if the first free one is told."""
    if begins_page == 0:
        return line
    pages_before = (line + frame.high - 1) // frame.high
    return pages_before * frame.high


def word_lines(frame, openings, lengths):
    """The line of each word, counted from 0 through the book.

    openings has the number of each paragraph's first word, and whether the paragraph begins a page.
    """
    lines = []
    line = -1
    used = 0
    for number, length in enumerate(lengths):
        if number in openings:
            line = paragraph_line(frame, line + 1, openings[number])
            used = length
        elif used + 1 + length <= frame.wide:
            used += 1 + length
        else:
            line += 1
            used = length
        lines.append(line)
    return lines


def page_of_line(frame, line):
    return frame.first_page + line // frame.high


def lines_by(book, setting):
    """The line of each word, being set with lengths as the setting has them."""
    lengths = word_lengths(book.frame, book.words, book.marks, setting)
    return word_lines(book.frame, book.openings, lengths)


def next_setting(book, setting):
    return [page_of_line(book.frame, line) for line in lines_by(book, setting)]


class Course:
    """The settings that passes bring, each once, in their order.

    back is the number of the setting that comes again behind the last one;
    None, if none comes again within the passes that are allowed.
    """

    def __init__(self, settings, back):
        self.settings = settings
        self.back = back

    def ring_length(self):
        return len(self.settings) - self.back

    def setting_behind(self, n):
        if n < len(self.settings):
            return self.settings[n]
        return self.settings[self.back + (n - self.back) % self.ring_length()]


def course_of(book):
    settings = []
    number_of = {}
    setting = [NOT_KNOWN for word in book.words]
    while len(settings) <= MOST_PASSES:
        key = tuple(setting)
        if key in number_of:
            return Course(settings, number_of[key])
        number_of[key] = len(settings)
        settings.append(setting)
        setting = next_setting(book, setting)
    return Course(settings, None)

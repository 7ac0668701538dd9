import random
import unittest

from tests.helpers import (HUGE, ask, begins, book_of, digits, how_far, last, lines, lines_by_texts, para, pass_, plain,
                           random_book, roman, settings_by_texts)

# "here" pushes the mark to the next page, and "on the next page" lets it back.
RING = [begins(10, 1, 1, 9, 2, 5), para(0, how_far(1), plain(5, 1))]
# 9 becomes 10: the reference grows, and what it tells of moves on.
GROWING = [begins(8, 1, 9), para(0, digits(1), plain(6)), para(0, plain(1, 1))]


def joined(*rows):
    """An answer of lines: how many, then each one's first word, page and line there."""
    return [len(rows)] + [number for row in rows for number in row]


class HowManyPasses(unittest.TestCase):
    def test_ends_of_the_range(self):
        book = [begins(5, 1), para(0, plain(3), plain(3))]
        answer = joined((0, 1, 0), (1, 2, 0))
        for n, expected in ((0, answer), (1, answer), (399, answer), (400, answer), (401, [-1]), (HUGE, [-1])):
            with self.subTest(n=n):
                self.assertEqual(last(*book, lines(n)), expected)

    def test_a_book_without_words(self):
        for n, expected in ((0, [0]), (1, [0]), (400, [0]), (401, [-1]), (HUGE, [-1])):
            with self.subTest(n=n):
                self.assertEqual(last(lines(n)), expected)
                self.assertEqual(last(begins(1, 1, 7), lines(n)), expected)

    def test_a_refusal_changes_nothing(self):
        given = ask(*GROWING, lines(1), lines(401), lines(1), lines(HUGE), pass_(2))
        self.assertEqual(given[3:], [given[3], [-1], given[3], [-1], [3, 9, 10, 11]])


class OnTheFirstFrame(unittest.TestCase):
    def test_60_signs_in_a_line(self):
        self.assertEqual(last(para(0, plain(29), plain(30)), lines(1)), joined((0, 1, 0)))
        self.assertEqual(last(para(0, plain(29), plain(31), plain(28)), lines(1)), joined((0, 1, 0), (1, 1, 1)))
        self.assertEqual(last(para(0, plain(29), plain(31), plain(29)), lines(1)),
                         joined((0, 1, 0), (1, 1, 1), (2, 1, 2)))

    def test_30_lines_on_a_page(self):
        self.assertEqual(last(para(0, *[plain(60)] * 32), lines(0)),
                         joined(*[(k, 1, k) for k in range(30)], (30, 2, 0), (31, 2, 1)))

    def test_a_paragraph_that_begins_a_page(self):
        self.assertEqual(last(para(0, plain(7), plain(7)), para(1, plain(60), plain(7)), para(0, plain(7)), lines(3)),
                         joined((0, 1, 0), (2, 2, 0), (3, 2, 1), (4, 2, 2)))


class FirstWords(unittest.TestCase):
    def test_several_words_in_a_line(self):
        words = [plain(3)] * 5
        # Two words of 3 signs and the blank between them fill 7 signs, three 11.
        self.assertEqual(last(begins(10, 2), para(0, *words), lines(1)), joined((0, 1, 0), (2, 1, 1), (4, 2, 0)))
        self.assertEqual(last(begins(11, 2), para(0, *words), lines(1)), joined((0, 1, 0), (3, 1, 1)))

    def test_words_that_are_too_long(self):
        self.assertEqual(last(begins(10, 2, 5), para(0, plain(3), plain(25), plain(1), plain(1)), lines(1)),
                         joined((0, 5, 0), (1, 5, 1), (2, 6, 0)))
        self.assertEqual(last(begins(10, 2, 5), para(0, plain(11), plain(200)), para(0, plain(11)), lines(1)),
                         joined((0, 5, 0), (1, 5, 1), (2, 6, 0)))

    def test_a_reference_that_is_too_long(self):
        # mmdccclxxxviii has 14 signs.
        book = [begins(10, 3, 2888), para(0, plain(1, 1), roman(1), plain(1), plain(1))]
        self.assertEqual(last(*book, lines(0)), joined((0, 2888, 0)))
        self.assertEqual(last(*book, lines(1)), joined((0, 2888, 0), (1, 2888, 1), (2, 2888, 2)))

    def test_a_paragraph_begins_a_line(self):
        one = para(0, plain(1))
        self.assertEqual(last(begins(60, 2), one, para(0, plain(1), plain(1)), one, lines(1)),
                         joined((0, 1, 0), (1, 1, 1), (3, 2, 0)))


class BeginningAPage(unittest.TestCase):
    def test_lines_without_words_are_not_counted(self):
        for many, page in ((1, 2), (2, 2), (3, 2), (4, 3), (6, 3), (7, 4)):
            with self.subTest(many=many):
                ahead = [(k, 1 + k // 3, k % 3) for k in range(many)]
                book = [begins(10, 3), para(0, *[plain(10)] * many), para(1, plain(1)), para(0, plain(1))]
                self.assertEqual(last(*book, lines(1)), joined(*ahead, (many, page, 0), (many + 1, page, 1)))

    def test_the_first_paragraph_and_several(self):
        one = para(1, plain(1))
        self.assertEqual(last(begins(10, 4, 7), one, lines(1)), joined((0, 7, 0)))
        self.assertEqual(last(begins(10, 4, 7), one, one, para(0, plain(1)), one, lines(1)),
                         joined((0, 7, 0), (1, 8, 0), (2, 8, 1), (3, 9, 0)))

    def test_pages_of_one_line(self):
        one = para(1, plain(1))
        self.assertEqual(last(begins(10, 1), one, one, para(0, plain(1)), lines(1)),
                         joined((0, 1, 0), (1, 2, 0), (2, 3, 0)))

    def test_pages_of_a_hundred_lines(self):
        book = [begins(10, 100, 3000), para(0, *[plain(10)] * 101), para(1, plain(1))]
        self.assertEqual(last(*book, lines(1)),
                         joined(*[(k, 3000, k) for k in range(100)], (100, 3001, 0), (101, 3002, 0)))


class ByTheLengthsOfASetting(unittest.TestCase):
    def test_nothing_known(self):
        # Each reference is 1 sign long, so five of them and their blanks fill a line of 9.
        words = [digits(1), roman(1), how_far(1), digits(2), roman(2), how_far(2), plain(1, 1)]
        self.assertEqual(last(begins(9, 5, 2888), para(0, *words), lines(0)), joined((0, 2888, 0), (5, 2888, 1)))

    def test_a_setting_that_stays(self):
        # The lengths are those of the setting behind n passes: where the words stand is a pass further.
        first = joined((0, 9, 0), (2, 10, 0))
        grown = joined((0, 9, 0), (1, 10, 0), (2, 11, 0))
        for n, answer in ((0, first), (1, grown), (2, grown), (3, grown), (400, grown)):
            with self.subTest(n=n):
                self.assertEqual(last(*GROWING, lines(n)), answer)

    def test_a_ring(self):
        one = joined((0, 1, 0))
        two = joined((0, 1, 0), (1, 2, 0))
        for n, answer in ((0, one), (1, two), (2, one), (3, two), (4, one), (399, two), (400, one)):
            with self.subTest(n=n):
                self.assertEqual(last(*RING, lines(n)), answer)

    def test_the_book_may_have_grown_since(self):
        book = [begins(8, 2, 99), para(0, digits(9), plain(6))]
        given = ask(*book, lines(2), para(0, plain(1, 9)), lines(0), lines(2))
        self.assertEqual(given[2:], [joined((0, 99, 0)), [3], joined((0, 99, 0), (2, 99, 1)),
                                     joined((0, 99, 0), (1, 99, 1), (2, 100, 0))])


class AgainstRealTexts(unittest.TestCase):
    def test_books_of_all_kinds(self):
        rng = random.Random(4)
        for number in range(300):
            frame, paragraphs = random_book(rng)
            settings = settings_by_texts(frame, paragraphs, 30)
            for n in (0, 1, 2, 3, 30):
                rows = [(numbers[0], frame[2] + line // frame[1], line % frame[1]) for line, numbers
                        in enumerate(lines_by_texts(frame, paragraphs, settings[n])) if numbers]
                with self.subTest(number=number, n=n):
                    self.assertEqual(last(*book_of(frame, paragraphs), lines(n)), joined(*rows))


if __name__ == "__main__":
    unittest.main()

import unittest

from tests.helpers import FIRST_FRAME, HUGE, ask, begins, how_far, last, para, pass_, plain, settles

# The place of each number among those of begins, its name, and the ends of its range.
RANGES = ((0, "wide", 1, 200), (1, "high", 1, 100), (2, "first page", 1, 3000), (3, "here", 1, 50),
          (4, "next page", 1, 50), (5, "before", 0, 50))


def begins_with(place, number):
    numbers = list(FIRST_FRAME)
    numbers[place] = number
    return begins(*numbers)


class Ranges(unittest.TestCase):
    def test_both_ends_are_allowed(self):
        for place, name, least, most in RANGES:
            for number in (least, most):
                with self.subTest(name=name, number=number):
                    self.assertEqual(ask(begins_with(place, number)), [[0]])

    def test_beyond_the_ends_is_refused(self):
        for place, name, least, most in RANGES:
            for number in (least - 1, most + 1, HUGE):
                if number >= 0:
                    with self.subTest(name=name, number=number):
                        self.assertEqual(ask(begins_with(place, number)), [[-1]])

    def test_all_at_an_end(self):
        self.assertEqual(ask(begins(1, 1, 1, 1, 1, 0), begins(200, 100, 3000, 50, 50, 50)), [[0], [0]])

    def test_all_wrong_at_once(self):
        self.assertEqual(ask(begins(0, 0, 0, 0, 0, 51)), [[-1]])


class WhatItChanges(unittest.TestCase):
    def test_the_book_is_without_paragraphs_behind_it(self):
        given = ask(para(0, plain(3, 7), plain(3)), begins(60, 30), pass_(1), settles(), para(0, plain(3, 7)))
        self.assertEqual(given, [[2], [0], [0], [0, 0, 0], [1]])

    def test_a_refusal_leaves_the_book_and_the_frame(self):
        before = [begins(10, 1, 8), para(0, plain(5, 3), plain(5))]
        for place, name, least, most in RANGES:
            with self.subTest(name=name):
                given = ask(*before, begins_with(place, most + 1), pass_(1), para(0, plain(1, 3)), para(1, plain(1)))
                self.assertEqual(given[2:], [[-1], [2, 8, 9], [-3], [3]])

    def test_a_refusal_leaves_what_passes_have_found(self):
        book = [begins(10, 1, 8), para(0, plain(5), plain(5))]
        self.assertEqual(ask(*book, pass_(1), begins(10, 101), pass_(1))[2:], [[2, 8, 9], [-1], [2, 8, 9]])

    def test_each_number_counts(self):
        wide = [para(0, plain(4), plain(5)), pass_(1)]
        self.assertEqual(last(begins(10, 1), *wide), [2, 1, 1])
        self.assertEqual(last(begins(9, 1), *wide), [2, 1, 2])
        high = [para(0, plain(9), plain(9)), pass_(1)]
        self.assertEqual(last(begins(9, 2), *high), [2, 1, 1])
        self.assertEqual(last(begins(9, 1, 40), *high), [2, 40, 41])

    def test_the_frame_changes_with_begins(self):
        words = para(0, plain(4), plain(5))
        given = ask(begins(10, 1), words, pass_(1), begins(9, 1, 5), words, pass_(1))
        self.assertEqual((given[2], given[5]), ([2, 1, 1], [2, 5, 6]))


class WithoutIt(unittest.TestCase):
    def test_60_signs_are_in_a_line_and_30_lines_on_a_page(self):
        lines = [word for k in range(29) for word in (plain(29), plain(30))]
        full = para(0, *lines, plain(29), plain(30))
        self.assertEqual(last(full, pass_(1)), [60] + [1] * 60)
        broken = para(0, *lines, plain(29), plain(31))
        self.assertEqual(last(broken, pass_(1)), [60] + [1] * 59 + [2])

    def test_the_first_page_is_1(self):
        self.assertEqual(last(para(0, plain(1)), pass_(1)), [1, 1])

    def page_of_filler(self, filler, mark_at):
        """The filler's page, behind a reference by how far that stands in its page's last line."""
        pages = [plain(60) for line in range(29)]
        pages[0] = plain(60, 1 if mark_at == "here" else 0)
        behind = plain(60, 1 if mark_at == "next page" else 0)
        far = plain(60, 1 if mark_at == "further" else 0)
        given = last(para(1, *pages, how_far(1), plain(filler), behind), para(1, far), pass_(2))
        return given[1 + 30]

    def test_the_three_lengths_are_4_16_and_5(self):
        for mark_at, length in (("here", 4), ("next page", 16), ("further", 5 + 1)):
            with self.subTest(mark_at=mark_at):
                self.assertEqual(self.page_of_filler(60 - 1 - length, mark_at), 1)
                self.assertEqual(self.page_of_filler(60 - length, mark_at), 2)

    def test_the_same_as_with_that_frame_begun(self):
        words = para(0, *[plain(1 + k % 40) for k in range(200)])
        self.assertEqual(last(words, pass_(1)), last(begins(*FIRST_FRAME), words, pass_(1)))


if __name__ == "__main__":
    unittest.main()

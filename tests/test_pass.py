import random
import unittest

from tests.helpers import (HUGE, begins, book_of, digits, how_far, last, para, pass_, plain, random_book, roman,
                           roman_text, settings_by_texts)
from truerefs.frame import Frame
from truerefs.lengths import word_lengths
from truerefs.words import Word


def fits(reference, length, n, first_page=1, marked="", wide=60, lengths=(4, 16, 5)):
    """Does a filler fit behind the reference, in the lengths behind n - 1 passes, if that is so long?

    The reference stands in the second and last line of its page. Whether the filler stands
    there too or on the next page, the words around them stay where they are. marked tells
    which of these has mark 1, or none: "here" and "next" are on the reference's page and the
    one behind, "far" is on the page behind that; "back" on the page before, the first one.
    """
    filler = wide - 1 - length
    own = {place: int(place == marked) for place in ("back", "here", "next", "far")}
    page = para(1, plain(wide, own["here"]), reference, plain(filler), plain(wide, own["next"]))
    book = [begins(wide, 2, first_page, *lengths), para(0, plain(1, own["back"])), page, para(1, plain(1, own["far"]))]
    pages = last(*book, pass_(n))[1:]
    without_filler = pages[:3] + pages[4:]
    expected = [first_page, first_page + 1, first_page + 1, first_page + 2, first_page + 3]
    assert without_filler == expected, pages
    return pages[3] == first_page + 1


class PassCase(unittest.TestCase):
    def assert_length(self, reference, length, n, **told):
        self.assertTrue(fits(reference, length, n, **told), "longer than told")
        if length > 0:
            self.assertFalse(fits(reference, length - 1, n, **told), "shorter than told")


class HowManyPasses(unittest.TestCase):
    book = [begins(5, 1), para(0, plain(3), plain(3))]

    def test_ends_of_the_range(self):
        for n, answer in ((0, [2, 0, 0]), (1, [2, 1, 2]), (2, [2, 1, 2]), (399, [2, 1, 2]), (400, [2, 1, 2]),
                          (401, [-1]), (HUGE, [-1])):
            with self.subTest(n=n):
                self.assertEqual(last(*self.book, pass_(n)), answer)

    def test_a_book_without_words(self):
        for n, answer in ((0, [0]), (1, [0]), (400, [0]), (401, [-1])):
            with self.subTest(n=n):
                self.assertEqual(last(pass_(n)), answer)
                self.assertEqual(last(begins(1, 1, 7), pass_(n)), answer)

    def test_a_refusal_changes_nothing(self):
        self.assertEqual(last(*self.book, pass_(401), pass_(1)), [2, 1, 2])

    def test_passes_go_round_in_a_ring(self):
        # "here" pushes the mark to the next page, and "on the next page" lets it back.
        book = [begins(10, 1, 1, 9, 2, 5), para(0, how_far(1), plain(5, 1))]
        for n, pages in ((0, [0, 0]), (1, [1, 1]), (2, [1, 2]), (3, [1, 1]), (4, [1, 2]), (399, [1, 1]), (400, [1, 2])):
            with self.subTest(n=n):
                self.assertEqual(last(*book, pass_(n)), [2] + pages)


class Digits(PassCase):
    def test_not_known_and_not_there(self):
        self.assert_length(digits(1), 1, 1, first_page=2500, marked="here")
        for n in (1, 2, 3, 400):
            self.assert_length(digits(1), 1, n, first_page=2500)

    def test_known(self):
        for first_page, length in ((1, 1), (9, 1), (10, 2), (99, 2), (100, 3), (999, 3), (1000, 4), (3000, 4)):
            with self.subTest(first_page=first_page):
                self.assert_length(digits(1), length, 2, first_page=first_page, marked="back")

    def test_it_is_the_marks_page_not_its_own(self):
        self.assert_length(digits(1), 1, 2, first_page=9, marked="back")
        self.assert_length(digits(1), 1, 2, first_page=8, marked="here")
        self.assert_length(digits(1), 2, 2, first_page=8, marked="next")
        self.assert_length(digits(1), 2, 2, first_page=7, marked="far")


class Roman(PassCase):
    def test_not_known_and_not_there(self):
        self.assert_length(roman(1), 1, 1, first_page=2888, marked="here")
        for n in (1, 2, 400):
            self.assert_length(roman(1), 1, n, first_page=2888)

    def test_numerals_written_out(self):
        numerals = ((1, "i"), (3, "iii"), (4, "iv"), (5, "v"), (8, "viii"), (9, "ix"), (10, "x"), (14, "xiv"),
                    (39, "xxxix"), (40, "xl"), (49, "xlix"), (50, "l"), (88, "lxxxviii"), (90, "xc"), (99, "xcix"),
                    (100, "c"), (400, "cd"), (444, "cdxliv"), (500, "d"), (888, "dccclxxxviii"), (900, "cm"),
                    (999, "cmxcix"), (1000, "m"), (1900, "mcm"), (2000, "mm"), (2888, "mmdccclxxxviii"),
                    (2999, "mmcmxcix"), (3000, "mmm"))
        for page, numeral in numerals:
            with self.subTest(page=page):
                self.assertEqual(roman_text(page), numeral)
                self.assert_length(roman(1), len(numeral), 2, first_page=page, marked="back")

    def test_every_first_page(self):
        for page in range(1, 3001):
            self.assert_length(roman(1), len(roman_text(page)), 2, first_page=page, marked="back")

    def test_pages_behind_the_3000th(self):
        alone = [para(1, plain(1)) for k in range(40)]
        # Page 3040 is mmmxl: 5 signs, which with 1 + 4 more fill a line of 10.
        for filler, page in ((4, 3041), (5, 3042)):
            book = [begins(10, 1, 3000), *alone, para(0, plain(10, 1)), para(0, roman(1), plain(filler))]
            self.assertEqual(last(*book, pass_(2))[-1], page)


class ByHowFar(PassCase):
    lengths = (7, 20, 3)

    def test_not_known_and_not_there(self):
        for marked in ("back", "here", "next", "far"):
            self.assert_length(how_far(1), 1, 1, marked=marked, lengths=self.lengths)
        for n in (1, 2, 400):
            self.assert_length(how_far(1), 1, n, lengths=self.lengths)

    def test_its_own_page_not_known(self):
        # No pass leaves one page known and another not, so the setting is made by hand.
        words = [Word(3, 1, 0), Word(0, 6, 1)]
        self.assertEqual(word_lengths(Frame(60, 30, 1, 7, 20, 3), words, {1: 1}, [0, 12]), [1, 6])
        self.assertEqual(word_lengths(Frame(60, 30, 1, 7, 20, 3), words, {1: 1}, [0, 1]), [1, 6])
        self.assertEqual(word_lengths(Frame(60, 30, 1, 7, 20, 3), words, {1: 1}, [12, 0]), [1, 6])
        self.assertEqual(word_lengths(Frame(60, 30, 1, 7, 20, 3), words, {1: 1}, [2, 12]), [5, 6])

    def test_here(self):
        for first_page in (1, 9, 99, 3000):
            self.assert_length(how_far(1), 7, 2, first_page=first_page, marked="here", lengths=self.lengths)

    def test_on_the_next_page(self):
        for first_page in (1, 9, 99, 3000):
            self.assert_length(how_far(1), 20, 2, first_page=first_page, marked="next", lengths=self.lengths)

    def test_further_on(self):
        for first_page, length in ((1, 1), (6, 1), (7, 2), (96, 2), (97, 3), (997, 4), (3000, 4)):
            self.assert_length(how_far(1), 3 + length, 2, first_page=first_page, marked="far", lengths=self.lengths)

    def test_back(self):
        for first_page, length in ((1, 1), (9, 1), (10, 2), (99, 2), (100, 3), (1000, 4)):
            self.assert_length(how_far(1), 3 + length, 2, first_page=first_page, marked="back", lengths=self.lengths)

    def test_nothing_before_the_number(self):
        self.assert_length(how_far(1), 1, 2, marked="back", lengths=(7, 20, 0))
        self.assert_length(how_far(1), 2, 2, first_page=10, marked="back", lengths=(7, 20, 0))

    def test_the_longest_phrases(self):
        for marked, length in (("here", 50), ("next", 50), ("far", 51), ("back", 51)):
            self.assert_length(how_far(1), length, 2, marked=marked, lengths=(50, 50, 50))

    def test_a_reference_to_itself_is_here(self):
        self.assert_length(how_far(1, 1), 7, 2, lengths=self.lengths)


class Lines(unittest.TestCase):
    def pages(self, frame, *paragraphs):
        return last(begins(*frame), *paragraphs, pass_(1))[1:]

    def test_a_word_that_fits_just_so_and_by_one_sign_not(self):
        self.assertEqual(self.pages((10, 1), para(0, plain(4), plain(5))), [1, 1])
        self.assertEqual(self.pages((10, 1), para(0, plain(4), plain(6))), [1, 2])
        self.assertEqual(self.pages((10, 1), para(0, plain(2), plain(3), plain(3))), [1, 1, 1])
        self.assertEqual(self.pages((10, 1), para(0, plain(2), plain(3), plain(4))), [1, 1, 2])

    def test_a_word_as_long_as_the_line(self):
        self.assertEqual(self.pages((10, 1), para(0, plain(10), plain(10), plain(1))), [1, 2, 3])

    def test_a_word_longer_than_its_line_stands_alone(self):
        self.assertEqual(self.pages((10, 1), para(0, plain(3), plain(25), plain(1), plain(1))), [1, 2, 3, 3])
        self.assertEqual(self.pages((10, 1), para(0, plain(25), plain(1))), [1, 2])
        self.assertEqual(self.pages((10, 1), para(0, plain(200), plain(200)), para(0, plain(11))), [1, 2, 3])

    def test_lines_of_one_sign(self):
        self.assertEqual(self.pages((1, 1), para(0, plain(1), plain(1), plain(2))), [1, 2, 3])
        self.assertEqual(self.pages((3, 1), para(0, plain(1), plain(1), plain(1))), [1, 1, 2])

    def test_a_paragraph_begins_a_line(self):
        self.assertEqual(self.pages((60, 1), para(0, plain(1)), para(0, plain(1), plain(1)), para(0, plain(1))),
                         [1, 2, 2, 3])

    def test_lines_fill_pages(self):
        words = [plain(10)] * 7
        self.assertEqual(self.pages((10, 3), para(0, *words)), [1, 1, 1, 2, 2, 2, 3])
        self.assertEqual(self.pages((10, 100), para(0, *[plain(10)] * 101)), [1] * 100 + [2])


class BeginningAPage(unittest.TestCase):
    def pages(self, *paragraphs):
        return last(begins(10, 3), *paragraphs, pass_(1))[1:]

    def test_the_first_paragraph(self):
        self.assertEqual(self.pages(para(1, plain(1))), [1])

    def test_in_each_line_of_a_page(self):
        behind = para(1, plain(1))
        self.assertEqual(self.pages(para(0, *[plain(10)] * 1), behind), [1, 2])
        self.assertEqual(self.pages(para(0, *[plain(10)] * 2), behind), [1, 1, 2])
        # The line behind is a page's first one already, so no page is left empty.
        self.assertEqual(self.pages(para(0, *[plain(10)] * 3), behind), [1, 1, 1, 2])
        self.assertEqual(self.pages(para(0, *[plain(10)] * 4), behind), [1, 1, 1, 2, 3])

    def test_several_and_what_follows_them(self):
        ahead = [para(1, plain(1)), para(1, plain(1)), para(0, plain(1))]
        self.assertEqual(self.pages(*ahead), [1, 2, 2])
        self.assertEqual(self.pages(*ahead, para(0, plain(1)), para(0, plain(1)), para(1, plain(1))),
                         [1, 2, 2, 2, 3, 4])

    def test_pages_of_one_line(self):
        self.assertEqual(last(begins(10, 1), para(1, plain(1)), para(1, plain(1)), para(0, plain(1)), pass_(1)),
                         [3, 1, 2, 3])

    def test_only_its_first_word_is_asked(self):
        self.assertEqual(self.pages(para(1, plain(10), plain(10)), para(0, plain(10), plain(10))), [1, 1, 1, 2])


class TheFirstPagesNumber(unittest.TestCase):
    def test_above_1(self):
        words = para(0, *[plain(10)] * 5)
        self.assertEqual(last(begins(10, 2, 7), words, pass_(1)), [5, 7, 7, 8, 8, 9])
        self.assertEqual(last(begins(10, 2, 3000), words, pass_(1)), [5, 3000, 3000, 3001, 3001, 3002])

    def test_a_paragraph_that_begins_a_page(self):
        self.assertEqual(last(begins(10, 2, 7), para(0, plain(1)), para(1, plain(1)), pass_(1)), [2, 7, 8])


class PassBehindPass(unittest.TestCase):
    def test_references_push_one_another(self):
        # 9 becomes 10: the reference grows, and what it tells of moves on.
        book = [begins(8, 1, 9), para(0, digits(1), plain(6)), para(0, plain(1, 1))]
        pages = [last(*book, pass_(n)) for n in range(5)]
        self.assertEqual(pages, [[3, 0, 0, 0], [3, 9, 9, 10], [3, 9, 10, 11], [3, 9, 10, 11], [3, 9, 10, 11]])

    def test_passes_begin_anew_when_the_book_has_grown(self):
        book = [begins(8, 1, 9), para(0, digits(1), plain(6)), para(0, plain(1, 1))]
        self.assertEqual(last(*book, pass_(3), para(0, plain(1)), pass_(1)), [4, 9, 9, 10, 11])
        self.assertEqual(last(*book, pass_(3), para(0, plain(1)), pass_(0)), [4, 0, 0, 0, 0])


class AgainstRealTexts(unittest.TestCase):
    def test_books_of_all_kinds(self):
        rng = random.Random(20)
        for number in range(400):
            frame, paragraphs = random_book(rng)
            calls = book_of(frame, paragraphs)
            settings = settings_by_texts(frame, paragraphs, 40)
            for n in (0, 1, 2, 3, 4, 7, 40):
                with self.subTest(number=number, n=n):
                    self.assertEqual(last(*calls, pass_(n)), [len(settings[n])] + settings[n])


if __name__ == "__main__":
    unittest.main()

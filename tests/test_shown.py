import random
import unittest

from tests.helpers import (HUGE, ask, begins, book_of, digits, how_far, last, para, pass_, plain, random_book, roman,
                           settings_by_texts, shown, texts_of)

NOTHING = (0,)
HERE = (2,)
NEXT_PAGE = (3,)


def page(number):
    return (1, number)


def joined(*rows):
    """An answer of shown: how many, then each one's word, length and what it tells."""
    return [len(rows)] + [number for word, length, told in rows for number in (word, length) + told]


def four_pages(*words):
    """A book in which words stand on the second of four pages; each page has a mark, from 1 to 4."""
    return [para(1, plain(5, 1)), para(1, plain(5, 2), *words), para(1, plain(5, 3)), para(1, plain(5, 4))]


def to_each_mark(reference):
    return [reference(mark) for mark in (1, 2, 3, 4, 5)]


class HowManyPasses(unittest.TestCase):
    book = [begins(8, 1, 9), para(0, digits(1), plain(6)), para(0, plain(1, 1))]

    def test_ends_of_the_range(self):
        for n, answer in ((0, joined((0, 1, NOTHING))), (1, joined((0, 2, page(10)))), (2, joined((0, 2, page(11)))),
                          (3, joined((0, 2, page(11)))), (400, joined((0, 2, page(11)))), (401, [-1]), (HUGE, [-1])):
            with self.subTest(n=n):
                self.assertEqual(last(*self.book, shown(n)), answer)

    def test_a_ring(self):
        # "here" pushes the mark to the next page, and "on the next page" lets it back.
        ring = [begins(10, 1, 1, 9, 2, 5), para(0, how_far(1), plain(5, 1))]
        is_here = joined((0, 9, HERE))
        is_next = joined((0, 2, NEXT_PAGE))
        for n, answer in ((0, joined((0, 1, NOTHING))), (1, is_here), (2, is_next), (3, is_here), (4, is_next),
                          (399, is_here), (400, is_next)):
            with self.subTest(n=n):
                self.assertEqual(last(*ring, shown(n)), answer)

    def test_a_refusal_changes_nothing(self):
        given = ask(*self.book, shown(1), shown(401), shown(1), shown(HUGE), pass_(2))
        self.assertEqual(given[3:], [given[3], [-1], given[3], [-1], [3, 9, 10, 11]])


class WithoutReferences(unittest.TestCase):
    def test_a_book_without_words(self):
        for n, answer in ((0, [0]), (1, [0]), (400, [0]), (401, [-1]), (HUGE, [-1])):
            with self.subTest(n=n):
                self.assertEqual(last(shown(n)), answer)

    def test_plain_words_alone(self):
        for n in (0, 1, 400):
            self.assertEqual(last(para(0, plain(3, 1), plain(4)), shown(n)), [0])


class EachKind(unittest.TestCase):
    def test_nothing_is_known_before_the_first_pass(self):
        for reference in (digits, roman, how_far):
            with self.subTest(reference=reference.__name__):
                book = four_pages(*to_each_mark(reference))
                self.assertEqual(last(*book, shown(0)), joined(*[(k, 1, NOTHING) for k in range(2, 7)]))

    def test_digits(self):
        rows = ((2, 1, page(8)), (3, 1, page(9)), (4, 2, page(10)), (5, 2, page(11)), (6, 1, NOTHING))
        for n in (1, 2, 400):
            book = [begins(60, 2, 8), *four_pages(*to_each_mark(digits))]
            self.assertEqual(last(*book, shown(n)), joined(*rows))

    def test_roman_numerals(self):
        # viii, ix, x, xi
        rows = ((2, 4, page(8)), (3, 2, page(9)), (4, 1, page(10)), (5, 2, page(11)), (6, 1, NOTHING))
        for n in (1, 2, 400):
            book = [begins(60, 2, 8), *four_pages(*to_each_mark(roman))]
            self.assertEqual(last(*book, shown(n)), joined(*rows))

    def test_by_how_far(self):
        rows = ((2, 5 + 1, page(8)), (3, 4, HERE), (4, 16, NEXT_PAGE), (5, 5 + 2, page(11)), (6, 1, NOTHING))
        for n in (1, 2, 400):
            book = [begins(60, 2, 8), *four_pages(*to_each_mark(how_far))]
            self.assertEqual(last(*book, shown(n)), joined(*rows))

    def test_by_how_far_with_other_lengths(self):
        rows = ((2, 0 + 2, page(98)), (3, 50, HERE), (4, 1, NEXT_PAGE), (5, 0 + 3, page(101)), (6, 1, NOTHING))
        book = [begins(200, 2, 98, 50, 1, 0), *four_pages(*to_each_mark(how_far))]
        self.assertEqual(last(*book, shown(1)), joined(*rows))
        rows = ((2, 50 + 3, page(998)), (3, 1, HERE), (4, 50, NEXT_PAGE), (5, 50 + 4, page(1001)), (6, 1, NOTHING))
        book = [begins(200, 2, 998, 1, 50, 50), *four_pages(*to_each_mark(how_far))]
        self.assertEqual(last(*book, shown(1)), joined(*rows))

    def test_on_the_first_frame(self):
        book = four_pages(digits(3), roman(3), how_far(3), how_far(2), how_far(4), how_far(1))
        rows = ((2, 1, page(3)), (3, 3, page(3)), (4, 16, NEXT_PAGE), (5, 4, HERE), (6, 6, page(4)), (7, 6, page(1)))
        for n in (1, 400):
            self.assertEqual(last(*book, shown(n)), joined(*rows))

    def test_a_reference_to_itself(self):
        book = [begins(60, 2, 49), para(0, digits(1, 1), roman(2, 2), how_far(3, 3))]
        self.assertEqual(last(*book, shown(0)), joined((0, 1, NOTHING), (1, 1, NOTHING), (2, 1, NOTHING)))
        self.assertEqual(last(*book, shown(1)), joined((0, 2, page(49)), (1, 4, page(49)), (2, 4, HERE)))

    def test_two_pages_back_and_two_on(self):
        alone = [para(1, plain(1, mark)) for mark in (1, 2)]
        behind = [para(1, plain(1, mark)) for mark in (3, 4)]
        words = [how_far(mark) for mark in (1, 2, 3, 4)]
        rows = ((2, 6, page(1)), (3, 6, page(2)), (4, 16, NEXT_PAGE), (5, 6, page(5)))
        self.assertEqual(last(*alone, para(1, *words), *behind, shown(1)), joined(*rows))


class Numbers(unittest.TestCase):
    def test_words_are_numbered_through_the_book(self):
        book = [begins(10, 1, 7), para(0, plain(3), roman(1)), para(0, digits(1)), para(0, plain(3, 1), how_far(1))]
        self.assertEqual(last(*book, shown(1)), joined((1, 2, page(9)), (2, 1, page(9)), (4, 4, HERE)))

    def test_the_page_is_that_of_the_setting_not_of_the_next_one(self):
        # The mark stands on page 9 behind one pass, and on 10 behind two.
        book = [begins(8, 1, 8), para(0, digits(1), plain(6)), para(0, digits(2), plain(6, 1)), para(0, plain(1, 2))]
        self.assertEqual(last(*book, shown(1)), joined((0, 1, page(9)), (2, 2, page(10))))
        self.assertEqual(last(*book, shown(2)), joined((0, 2, page(10)), (2, 2, page(11))))
        self.assertEqual(last(*book, shown(3)), joined((0, 2, page(11)), (2, 2, page(12))))

    def test_a_mark_that_a_later_paragraph_brings(self):
        given = ask(para(0, how_far(1)), shown(1), para(1, plain(1, 1)), shown(1), shown(0))
        self.assertEqual(given, [[1], joined((0, 1, NOTHING)), [2], joined((0, 16, NEXT_PAGE)),
                                 joined((0, 1, NOTHING))])


def told_by_texts(text, mark_page):
    if text == "?":
        return NOTHING
    return {"h": HERE, "n": NEXT_PAGE}.get(text[0], page(mark_page))


class AgainstRealTexts(unittest.TestCase):
    def test_books_of_all_kinds(self):
        rng = random.Random(5)
        kinds = {}
        for number in range(300):
            frame, paragraphs = random_book(rng)
            words = [word for begins_page, words in paragraphs for word in words]
            where = {word[2]: k for k, word in enumerate(words) if word[2]}
            settings = settings_by_texts(frame, paragraphs, 30)
            for n in (0, 1, 2, 3, 30):
                texts = texts_of(frame, paragraphs, settings[n])
                rows = [(k, len(texts[k]), told_by_texts(texts[k], settings[n][where.get(word[1], 0)]))
                        for k, word in enumerate(words) if word[0]]
                with self.subTest(number=number, n=n):
                    self.assertEqual(last(*book_of(frame, paragraphs), shown(n)), joined(*rows))
                kinds.update({(words[k][0], told[0]): True for k, length, told in rows})
        self.assertEqual(sorted(kinds), [(1, 0), (1, 1), (2, 0), (2, 1), (3, 0), (3, 1), (3, 2), (3, 3)])


if __name__ == "__main__":
    unittest.main()

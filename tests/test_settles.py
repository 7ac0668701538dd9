import random
import unittest
from unittest import mock

from tests.helpers import (ask, begins, book_of, digits, how_far, last, para, pass_, plain, random_book, roman, settles,
                           settings_by_texts)

WIDE = 60


def switches(cells):
    """A book of cells, each of two pages, on one or the other of which its mark stands.

    Cell k has mark k, on page 2k - 1 while its references leave it room in that page's last line,
    else on page 2k. Each is told by the marks of its references and by how many signs these may
    have, a blank behind each. As page numbers in Roman numerals grow and shrink, marks move
    one another, and it takes many passes till a setting comes again.
    """
    calls = [begins(WIDE, 2)]
    for k, (marks, room) in enumerate(cells, start=1):
        references = [roman(mark) for mark in marks]
        calls.append(para(1, plain(WIDE), *references, plain(WIDE - room, k), plain(WIDE)))
    return calls


# Three loops of cells, which come round in 4, 9 and 11 passes: together in 396, once they have begun to.
AGAIN_BEHIND_400 = (((8,), 3), ((9,), 5), ((10,), 3), ((12,), 5), ((11,), 4), ((4,), 4), ((6, 4), 8), ((13, 5), 7),
                    ((7,), 4), ((3,), 2), ((1,), 2), ((2,), 3), ((5,), 2))
AGAIN_BEHIND_401 = (((6,), 3), ((10,), 3), ((1, 6), 6), ((7,), 4), ((3,), 2), ((9,), 5), ((4,), 4), ((2,), 3),
                    ((5,), 2), ((12,), 5), ((13,), 4), ((11, 13), 9), ((8,), 3))


class Stays(unittest.TestCase):
    def test_a_book_without_words(self):
        self.assertEqual(ask(settles()), [[0, 0, 0]])
        self.assertEqual(last(begins(10, 1, 40), settles()), [0, 0, 0])

    def test_plain_words_stay_behind_one_pass(self):
        self.assertEqual(last(para(0, plain(3)), settles()), [0, 1, 1])
        self.assertEqual(last(begins(10, 1, 40), para(0, plain(9), plain(9)), para(0, plain(9)), settles()), [0, 1, 42])

    def test_a_reference_that_grows_takes_a_pass_more(self):
        book = [begins(8, 1, 9), para(0, digits(1), plain(6)), para(0, plain(1, 1))]
        self.assertEqual(last(*book, settles()), [0, 2, 11])

    def test_a_reference_that_grows_without_moving_a_word(self):
        book = [begins(9, 1, 9), para(0, digits(1), plain(6)), para(0, plain(1, 1))]
        self.assertEqual(last(*book, settles()), [0, 1, 10])

    def test_one_behind_another(self):
        # The second reference grows at once and moves mark 1 to page 10, so then the first one grows.
        book = [begins(8, 1, 8), para(0, digits(1), plain(6)), para(0, digits(2), plain(6, 1)), para(0, plain(1, 2))]
        pages = [last(*book, pass_(n))[1:] for n in range(6)]
        self.assertEqual(pages, [[0, 0, 0, 0, 0], [8, 8, 9, 9, 10], [8, 8, 9, 10, 11], [8, 9, 10, 11, 12],
                                 [8, 9, 10, 11, 12], [8, 9, 10, 11, 12]])
        self.assertEqual(last(*book, settles()), [0, 3, 12])

    def test_the_page_is_the_last_words(self):
        book = [begins(10, 1, 5), para(0, plain(9), plain(9, 1)), para(0, plain(4), digits(1))]
        self.assertEqual(last(*book, settles()), [0, 1, 7])


class Ring(unittest.TestCase):
    def test_two_settings(self):
        book = [begins(10, 1, 1, 9, 2, 5), para(0, how_far(1), plain(5, 1))]
        self.assertEqual(last(*book, settles()), [1, 1, 2])

    def test_two_settings_by_roman_numerals(self):
        # iii needs more room than iv: the mark is on page 3 just when it's told to be on page 4.
        book = [begins(10, 1, 3), para(0, roman(1), plain(7, 1))]
        self.assertEqual([last(*book, pass_(n))[1:] for n in range(5)], [[0, 0], [3, 3], [3, 4], [3, 3], [3, 4]])
        self.assertEqual(last(*book, settles()), [1, 1, 2])

    def test_four_settings(self):
        # Mark 2 goes to page 4 when mark 1 is on 2, as ii is longer than i; mark 1 to 2 when mark 2 is on 3.
        cells = (((2,), 3), ((1,), 2))
        pages = [last(*switches(cells), pass_(n))[1:] for n in range(1, 6)]
        marks = [(setting[2], setting[6]) for setting in pages]
        self.assertEqual(marks, [(1, 3), (2, 3), (2, 4), (1, 4), (1, 3)])
        self.assertEqual(last(*switches(cells), settles()), [1, 1, 4])

    def test_it_may_come_to_the_ring_later(self):
        # The ring's reference is to a mark that is moved once by the growing of another reference.
        book = [begins(8, 1, 9, 7, 1, 5), para(0, digits(1), plain(6)), para(0, plain(1, 1)),
                para(0, how_far(2), plain(4, 2))]
        pages = [last(*book, pass_(n))[1:] for n in range(6)]
        self.assertEqual(pages, [[0, 0, 0, 0, 0], [9, 9, 10, 11, 11], [9, 10, 11, 12, 13], [9, 10, 11, 12, 12],
                                 [9, 10, 11, 12, 13], [9, 10, 11, 12, 12]])
        self.assertEqual(last(*book, settles()), [1, 2, 2])


class Within400Passes(unittest.TestCase):
    def test_a_setting_that_comes_again_behind_the_400th(self):
        book = switches(AGAIN_BEHIND_400)
        given = ask(*book, settles(), pass_(4), pass_(400), pass_(3), pass_(399))[len(book):]
        self.assertEqual(given[0], [1, 4, 396])
        self.assertEqual(given[1], given[2])
        self.assertNotEqual(given[3], given[4])

    def test_one_that_would_come_again_behind_the_401st(self):
        self.assertEqual(last(*switches(AGAIN_BEHIND_401), settles()), [-7])

    def test_one_that_stays_must_come_again_within_them_too(self):
        # No book is known that takes so many passes to settle, so fewer are allowed: its setting comes again behind 3.
        book = [begins(8, 1, 9), para(0, digits(1), plain(6)), para(0, plain(1, 1))]
        for most, answer in ((2, [-7]), (3, [0, 2, 11]), (4, [0, 2, 11])):
            with self.subTest(most=most), mock.patch("truerefs.passes.MOST_PASSES", most):
                self.assertEqual(last(*book, settles()), answer)

    def test_passes_are_answered_all_the_same(self):
        book = switches(AGAIN_BEHIND_401)
        given = ask(*book, settles(), pass_(0), pass_(4), pass_(5), pass_(400), settles())[len(book):]
        self.assertEqual((given[0], given[5]), ([-7], [-7]))
        self.assertEqual(given[1], [54] + [0] * 54)
        self.assertNotIn(given[4], given[1:4])

    def test_both_books_by_real_texts(self):
        for cells, back in ((AGAIN_BEHIND_400, 4), (AGAIN_BEHIND_401, 5)):
            paragraphs = [(call[2], [tuple(call[k:k + 3]) for k in range(3, len(call) - 1, 3)])
                          for call in switches(cells)[1:]]
            settings = settings_by_texts((WIDE, 2, 1, 4, 16, 5), paragraphs, back + 396)
            self.assertEqual(settings[back], settings[back + 396])
            self.assertEqual(len(set(map(tuple, settings))), back + 396)
            self.assertEqual(last(*switches(cells), pass_(400))[1:], settings[400])

    def test_a_minus_7_changes_nothing(self):
        book = switches(AGAIN_BEHIND_401)
        given = ask(*book, settles(), para(0, plain(1, 13)), para(0, plain(1, 14)), begins(10, 1), settles())
        self.assertEqual(given[len(book):], [[-7], [-3], [55], [0], [0, 0, 0]])


class BehindChanges(unittest.TestCase):
    def test_a_paragraph_more(self):
        book = [begins(10, 1, 1, 4, 9, 5), para(0, how_far(1), plain(5))]
        given = ask(*book, settles(), para(0, plain(5, 1)), settles())
        self.assertEqual(given[2:], [[0, 1, 1], [3], [0, 2, 3]])

    def test_another_book(self):
        ring = [begins(10, 1, 1, 9, 2, 5), para(0, how_far(1), plain(5, 1))]
        given = ask(*ring, settles(), begins(10, 1), settles(), *ring, settles())
        self.assertEqual([given[2], given[4], given[7]], [[1, 1, 2], [0, 0, 0], [1, 1, 2]])


def settles_by_texts(settings):
    for n, setting in enumerate(settings):
        back = settings.index(setting)
        if back < n:
            return [0, back, setting[-1]] if n == back + 1 else [1, back, n - back]
    return None


class AgainstRealTexts(unittest.TestCase):
    def test_books_of_all_kinds(self):
        rng = random.Random(7)
        kinds = {}
        for number in range(400):
            frame, paragraphs = random_book(rng)
            calls = book_of(frame, paragraphs)
            expected = settles_by_texts(settings_by_texts(frame, paragraphs, 60))
            with self.subTest(number=number):
                self.assertEqual(last(*calls, settles()), expected)
            kinds[tuple(expected[:2])] = True
        self.assertTrue({(0, 1), (0, 2), (0, 3), (1, 1), (1, 2), (1, 3)} <= set(kinds), kinds)


if __name__ == "__main__":
    unittest.main()

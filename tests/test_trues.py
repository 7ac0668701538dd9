import itertools
import random
import unittest

from tests.helpers import (ask, begins, book_of, digits, how_far, last, lines, open_, para, pass_, plain, random_book,
                           roman, set_once, settles, shown, trues)

# "here" pushes the mark to the next page, and "on the next page" lets it back.
NONE_BY_HOW_FAR = [begins(10, 1, 1, 9, 2, 5), para(0, how_far(1), plain(5, 1))]
# iii needs more room than iv: the mark is on page 3 just when it's told to be on page 4.
NONE_BY_NUMERALS = [begins(10, 1, 3), para(0, roman(1), plain(7, 1))]
# "here" leaves the mark where it is, and so does "on the next page".
TWO_BY_HOW_FAR = [begins(10, 1, 3, 2, 9, 5), para(0, how_far(1), plain(5, 1))]


class WithoutWords(unittest.TestCase):
    def test_one_true_setting_of_no_pages(self):
        self.assertEqual(ask(trues()), [[1]])
        self.assertEqual(last(begins(1, 1, 3000), trues()), [1])
        self.assertEqual(last(*TWO_BY_HOW_FAR, begins(10, 1), trues()), [1])


class WhereNoWordCounts(unittest.TestCase):
    def test_plain_words_have_one(self):
        self.assertEqual(last(para(0, plain(29), plain(31)), para(1, plain(3)), trues()), [1, 1, 1, 2])
        self.assertEqual(last(begins(10, 1, 40), para(0, plain(9, 1), plain(9, 2)), trues()), [1, 40, 41])

    def test_references_to_marks_that_are_not_there(self):
        # They are 1 sign long, wherever they stand.
        book = [begins(5, 1, 2888), para(0, digits(1), roman(2), digits(3), roman(3), plain(1, 4))]
        self.assertEqual(last(*book, trues()), [1, 2888, 2888, 2888, 2889, 2889])


class HowMany(unittest.TestCase):
    def test_none(self):
        self.assertEqual(last(*NONE_BY_HOW_FAR, trues()), [0])
        self.assertEqual(last(*NONE_BY_NUMERALS, trues()), [0])

    def test_one_on_the_first_frame(self):
        book = [para(0, how_far(1), digits(1), roman(1)), para(1, plain(5, 1))]
        self.assertEqual(last(*book, trues()), [1, 1, 1, 1, 2])

    def test_one_that_the_passes_come_to(self):
        book = [begins(8, 1, 9), para(0, digits(1), plain(6)), para(0, plain(1, 1))]
        self.assertEqual(ask(*book, settles(), trues())[3:], [[0, 2, 11], [1, 9, 10, 11]])

    def test_one_that_the_passes_do_not_come_to(self):
        # The mark goes to and fro between 13 (xiii breaks its line) and 14 (xiv doesn't). But if it's told to be on
        # page 18, xviii breaks all five lines, and so it is.
        book = [begins(10, 1, 9), *[para(0, roman(1), plain(5))] * 4, para(0, roman(1), plain(6, 1))]
        given = ask(*book, settles(), pass_(1), pass_(2), trues())[6:]
        self.assertEqual(given, [[1, 1, 2], [10, 9, 9, 10, 10, 11, 11, 12, 12, 13, 13],
                                 [10, 9, 9, 10, 10, 11, 11, 12, 12, 13, 14],
                                 [1, 9, 10, 11, 12, 13, 14, 15, 16, 17, 18]])

    def test_two(self):
        self.assertEqual(last(*TWO_BY_HOW_FAR, trues()), [2, 3, 3])

    def test_two_by_numerals(self):
        # vii and viii: the numeral moves its mark to the page which that is.
        book = [begins(10, 1, 7), para(0, roman(1), plain(6, 1))]
        self.assertEqual(last(*book, trues()), [2, 7, 7])

    def test_two_with_three_words_that_count(self):
        # The mark is on page 3 or 4. The second reference stands on the page behind it, and tells its number.
        self.assertEqual(last(*TWO_BY_HOW_FAR, para(0, how_far(1), plain(3)), trues()), [2, 3, 3, 4, 4])

    def test_three(self):
        # v breaks no line, vi the first one, vii both: the mark is on page 5, 6 or 7.
        book = [begins(10, 1, 3), para(0, roman(1), plain(8)), para(0, roman(1), plain(7)), para(0, plain(1, 1))]
        self.assertEqual(last(*book, trues()), [3, 3, 3, 4, 4, 5])

    def test_eight(self):
        # Each of three marks may be on the one page or the next: 7 and 8, 10 and 11, 12 and 13.
        book = [begins(10, 2, 7), para(1, plain(10), roman(1), plain(6, 1), plain(10)), para(1, plain(1)),
                para(1, plain(10), roman(2), plain(8, 2), plain(10)),
                para(1, plain(10), roman(3), plain(6, 3), plain(10))]
        self.assertEqual(last(*book, trues()), [8, 7, 7, 7, 8, 9, 10, 10, 10, 11, 12, 12, 12, 13])


class TheFirstOne(unittest.TestCase):
    def test_fewest_pages_by_the_last_words(self):
        # With the mark on page 3 the paragraphs behind take two pages each, as iii is so long: 3 3 4 5 6 7.
        # With the mark on page 4 they take one.
        behind = para(0, roman(1), plain(7))
        self.assertEqual(last(*TWO_BY_HOW_FAR, behind, behind, trues()), [2, 3, 4, 5, 5, 6, 6])

    def test_of_as_many_pages_the_first_by_its_words_in_order(self):
        # 3 3 4 5 and 3 4 5 5.
        self.assertEqual(last(*TWO_BY_HOW_FAR, para(0, roman(1), plain(7)), trues()), [2, 3, 3, 4, 5])


class HowManyWordsCount(unittest.TestCase):
    def assert_counts(self, many, *words):
        """Just so many of the words count: with others that count there are 3 or 4."""
        for others, refused in ((3 - many, False), (4 - many, True)):
            given = last(para(0, *words, *[how_far(20)] * others), trues())
            self.assertEqual(given == [-5], refused, (many, others, given))

    def test_three_and_four(self):
        marks = [plain(1, mark) for mark in (1, 2, 3, 4)]
        references = [digits(mark) for mark in (1, 2, 3, 4)]
        self.assertEqual(last(para(0, *references[:3], *marks), trues()), [1] + [1] * 7)
        self.assertEqual(last(para(0, *references, *marks), trues()), [-5])
        self.assertEqual(last(para(0, *[how_far(5)] * 3), trues()), [1, 1, 1, 1])
        self.assertEqual(last(para(0, *[how_far(5)] * 4), trues()), [-5])

    def test_references_by_digits_and_numerals_do_not_count(self):
        self.assert_counts(0, digits(1), roman(1), digits(2), roman(3), plain(3))
        self.assert_counts(1, *[digits(1)] * 20, *[roman(1)] * 20, plain(1, 1))

    def test_marks_that_nothing_tells_of_do_not_count(self):
        self.assert_counts(0, *[plain(1, mark) for mark in range(1, 16)])
        self.assert_counts(0, plain(1, 1), digits(2, 3), roman(4, 5))

    def test_each_kind_of_reference_makes_a_mark_count(self):
        self.assert_counts(1, plain(1, 1), digits(1))
        self.assert_counts(1, plain(1, 1), roman(1))
        self.assert_counts(2, plain(1, 1), how_far(1))

    def test_a_reference_by_how_far_counts_without_its_mark_too(self):
        self.assert_counts(1, how_far(9))
        self.assert_counts(2, how_far(9), how_far(9))

    def test_a_word_counts_once(self):
        self.assert_counts(1, how_far(1, 1))
        self.assert_counts(2, how_far(1, 2), how_far(2, 1))
        self.assert_counts(1, plain(1, 1), digits(1), digits(1), roman(1))

    def test_a_marked_reference_counts(self):
        self.assert_counts(1, digits(1, 1))
        self.assert_counts(2, digits(1, 2), roman(2, 1))

    def test_a_plain_words_length_is_no_mark(self):
        self.assert_counts(0, plain(1, 2), plain(2, 1), plain(3, 3))

    def test_words_of_other_paragraphs_count(self):
        book = [para(0, digits(1), how_far(2)), para(0, plain(1, 1)), para(0, plain(1, 2))]
        self.assertEqual(last(*book, trues()), [1, 1, 1, 1, 1])
        self.assertEqual(last(*book, para(1, how_far(7)), trues()), [-5])


class TheLastPageThereMayBe(unittest.TestCase):
    def trues_of(self, high, *sizes, first_page=1):
        """The answer for plain words of 1 sign in paragraphs of these sizes."""
        return last(begins(60, high, first_page), *[para(0, *[plain(1)] * size) for size in sizes], trues())

    def test_one_paragraph(self):
        # Its words by high, rounded up, and one more.
        for high, size in ((1, 29), (2, 58), (2, 57), (3, 87), (3, 85), (6, 174), (7, 200), (100, 200)):
            with self.subTest(high=high, size=size):
                self.assertEqual(self.trues_of(high, size)[0], 1)
        for high, size in ((1, 30), (1, 200), (2, 59), (2, 60), (3, 88), (6, 175)):
            with self.subTest(high=high, size=size):
                self.assertEqual(self.trues_of(high, size), [-5])

    def test_one_more_for_each_paragraph(self):
        self.assertEqual(self.trues_of(30, *[1] * 15), [1] + [1] * 15)
        self.assertEqual(self.trues_of(30, *[1] * 16), [-5])
        self.assertEqual(self.trues_of(30, *[1] * 14, 30)[0], 1)
        self.assertEqual(self.trues_of(30, *[1] * 14, 31), [-5])
        self.assertEqual(self.trues_of(1, 14, 14)[0], 1)
        self.assertEqual(self.trues_of(1, 14, 15), [-5])

    def test_each_paragraph_is_rounded_up_by_itself(self):
        self.assertEqual(self.trues_of(2, 1, 1, 1, 1, 1, 1, 1, 1, 1, 1, 1, 1, 4)[0], 1)
        self.assertEqual(self.trues_of(2, 27, 27)[0], 1)
        self.assertEqual(self.trues_of(2, 28, 28)[0], 1)
        self.assertEqual(self.trues_of(2, 29, 27), [-5])

    def test_the_first_pages_number_does_not_matter(self):
        self.assertEqual(self.trues_of(1, 29, first_page=3000), [1] + [3000] * 29)
        self.assertEqual(self.trues_of(1, 30, first_page=3000), [-5])

    def test_whether_a_paragraph_begins_a_page_does_not_matter(self):
        one = para(1, plain(1))
        self.assertEqual(last(*[one] * 15, trues()), [1] + list(range(1, 16)))
        self.assertEqual(last(*[one] * 16, trues()), [-5])

    def test_on_the_first_frame(self):
        self.assertEqual(last(para(0, *[plain(60)] * 200), trues())[0], 1)
        self.assertEqual(last(*[para(0, plain(1))] * 16, trues()), [-5])

    def test_too_many_words_and_pages_at_once(self):
        self.assertEqual(last(*[para(0, how_far(1))] * 16, trues()), [-5])

    def test_a_mark_on_the_furthest_page(self):
        book = [begins(1, 1, 72), para(0, *[roman(1)] * 28, plain(1, 1))]
        self.assertEqual(last(*book, trues()), [1] + list(range(72, 101)))
        book = [begins(1, 1, 72), *[para(1, roman(1))] * 14, para(1, plain(1, 1))]
        self.assertEqual(last(*book, trues()), [1] + list(range(72, 87)))


class NothingIsChanged(unittest.TestCase):
    def test_behind_an_answer_and_a_refusal(self):
        for book, answer in ((TWO_BY_HOW_FAR, [2, 3, 3]), (NONE_BY_NUMERALS, [0])):
            asked = [pass_(2), settles(), lines(2), shown(2), open_()]
            given = ask(*book, *asked, trues(), *asked, trues())[2:]
            self.assertEqual((given[5], given[11]), (answer, answer))
            self.assertEqual(given[:5], given[6:11])
        book = [begins(10, 1), para(0, *[plain(9)] * 30, digits(4))]
        given = ask(*book, *asked, trues(), *asked, trues())[2:]
        self.assertEqual((given[5], given[11]), ([-5], [-5]))
        self.assertEqual(given[:5], given[6:11])

    def test_the_book_may_grow_on(self):
        given = ask(*NONE_BY_NUMERALS, trues(), para(0, digits(1)), trues(), begins(60, 30), trues())
        self.assertEqual(given[2:], [[0], [3], [0], [0], [1]])


def true_by_trying(frame, paragraphs):
    """All true settings, found by trying all pages for all words; a later word is never on an earlier page."""
    many = sum(len(words) for begins_page, words in paragraphs)
    pages = range(frame[2], frame[2] + many)
    return [list(setting) for setting in itertools.combinations_with_replacement(pages, many)
            if set_once(frame, paragraphs, setting) == list(setting)]


def small_book(rng):
    frame = (rng.randint(1, 14), rng.randint(1, 2), rng.choice((1, 2, 3, 7, 8, 38, 98)),
             rng.randint(1, 12), rng.randint(1, 12), rng.randint(0, 9))
    own_marks = [1, 2] + [0] * rng.randint(0, 3)
    rng.shuffle(own_marks)
    words = []
    for own in own_marks:
        kind = rng.randint(0, 3)
        words.append((kind, rng.randint(1, 9) if kind == 0 else rng.choice((1, 1, 2, 2, 3)), own))
    cut = rng.randint(1, len(words))
    return frame, [(rng.randint(0, 1), part) for part in (words[:cut], words[cut:]) if part]


def count_by_words(paragraphs):
    words = [word for begins_page, words in paragraphs for word in words]
    told_of = {word[1] for word in words if word[0]}
    return sum(1 for word in words if word[0] == 3 or word[2] in told_of)


class AgainstTryingAll(unittest.TestCase):
    def test_small_books(self):
        rng = random.Random(6)
        found = {}
        for number in range(3000):
            frame, paragraphs = small_book(rng)
            given = last(*book_of(frame, paragraphs), trues())
            with self.subTest(frame=frame, paragraphs=paragraphs):
                if count_by_words(paragraphs) > 3:
                    self.assertEqual(given, [-5])
                else:
                    settings = sorted(true_by_trying(frame, paragraphs), key=lambda setting: (setting[-1], setting))
                    self.assertEqual(given, [len(settings)] + (settings[0] if settings else []))
                    found[len(settings)] = found.get(len(settings), 0) + 1
        self.assertTrue({0, 1, 2, 3} <= set(found), found)


class WhatSettles(unittest.TestCase):
    def test_with_plain_numbers_it_is_the_least_true_setting(self):
        rng = random.Random(8)
        answered = 0
        for number in range(60):
            frame, paragraphs = random_book(rng)
            paragraphs = [(begins_page, [(min(kind, 1), told if told <= 12 else 1, own if own <= 3 else 0)
                                         for kind, told, own in words]) for begins_page, words in paragraphs]
            given = ask(*book_of(frame, paragraphs), settles(), pass_(400), trues())[-3:]
            if given[2] != [-5]:
                answered += 1
                with self.subTest(number=number):
                    self.assertEqual(given[0][0], 0)
                    self.assertEqual(given[2][1:], given[1][1:])
        self.assertGreater(answered, 20)


if __name__ == "__main__":
    unittest.main()

import unittest

from tests.helpers import HUGE, ask, begins, digits, how_far, last, para, pass_, plain, roman, settles


class Answers(unittest.TestCase):
    def test_how_many_words_the_book_has(self):
        self.assertEqual(ask(para(0, plain(3)), para(1, plain(3), plain(4)), para(0, plain(9))), [[1], [3], [4]])

    def test_each_kind_of_word(self):
        self.assertEqual(ask(para(0, plain(3, 1), digits(1), roman(1), how_far(1))), [[4]])
        for word in (plain(3), digits(1), roman(1), how_far(1)):
            with self.subTest(word=word):
                self.assertEqual(ask(para(0, word)), [[1]])
                self.assertEqual(ask(para(1, word)), [[1]])

    def test_a_reference_to_itself_and_to_a_mark_that_is_not_there(self):
        self.assertEqual(ask(para(0, digits(4, 4)), para(0, roman(19))), [[1], [2]])


class OutOfRange(unittest.TestCase):
    def test_no_word(self):
        self.assertEqual(ask(para(0)), [[-1]])
        self.assertEqual(ask(para(1)), [[-1]])
        self.assertEqual(ask(para(0, plain(1)), para(0), pass_(1)), [[1], [-1], [1, 1]])

    def test_a_plain_length(self):
        for length, answer in ((0, -1), (1, 1), (200, 1), (201, -1), (HUGE, -1)):
            with self.subTest(length=length):
                self.assertEqual(ask(para(0, plain(length))), [[answer]])

    def test_the_mark_of_each_reference(self):
        for reference in (digits, roman, how_far):
            for mark, answer in ((0, -1), (1, 1), (20, 1), (21, -1), (200, -1), (HUGE, -1)):
                with self.subTest(reference=reference.__name__, mark=mark):
                    self.assertEqual(ask(para(0, reference(mark))), [[answer]])

    def test_an_own_mark(self):
        for word in (plain, digits, roman, how_far):
            for own, answer in ((0, 1), (1, 1), (20, 1), (21, -1), (HUGE, -1)):
                with self.subTest(word=word.__name__, own=own):
                    self.assertEqual(ask(para(0, word(5, own))), [[answer]])

    def test_a_wrong_word_at_each_place(self):
        for place in range(3):
            for wrong in (plain(0), digits(21), roman(0), how_far(21), plain(1, 21)):
                words = [plain(1), roman(1), digits(1)]
                words[place] = wrong
                with self.subTest(words=words):
                    self.assertEqual(ask(para(0, *words)), [[-1]])


class MarkTwice(unittest.TestCase):
    def test_in_one_paragraph(self):
        self.assertEqual(ask(para(0, plain(1, 5), plain(1), digits(5, 5))), [[-3]])
        self.assertEqual(ask(para(0, plain(1, 20), plain(1, 20))), [[-3]])

    def test_one_that_there_is_already(self):
        for word in (plain, digits, roman, how_far):
            with self.subTest(word=word.__name__):
                self.assertEqual(ask(para(0, plain(1, 5)), para(0, plain(1, 4), word(5, 5))), [[1], [-3]])

    def test_words_without_a_mark_are_not_alike(self):
        self.assertEqual(ask(para(0, plain(1, 0), plain(1, 0)), para(0, plain(1, 0))), [[2], [3]])

    def test_what_references_tell_of_is_not_an_own_mark(self):
        self.assertEqual(ask(para(0, digits(5), roman(5), how_far(5)), para(0, plain(5, 5), digits(5))), [[3], [5]])

    def test_all_twenty_marks(self):
        marked = [plain(1, mark) for mark in range(1, 21)]
        self.assertEqual(ask(para(0, *marked), para(0, plain(1, 20)), para(0, plain(1, 1))), [[20], [-3], [-3]])


class TooMany(unittest.TestCase):
    def test_in_one_paragraph(self):
        self.assertEqual(ask(para(0, *[plain(1)] * 200)), [[200]])
        self.assertEqual(ask(para(0, *[plain(1)] * 201)), [[-5]])
        self.assertEqual(ask(para(0, *[plain(1)] * 250)), [[-5]])

    def test_in_several(self):
        given = ask(para(0, *[plain(1)] * 199), para(0, plain(1), plain(1)), para(0, plain(1)), para(0, plain(1)))
        self.assertEqual(given, [[199], [-5], [200], [-5]])

    def test_begins_makes_room_again(self):
        full = para(0, *[plain(1)] * 200)
        self.assertEqual(ask(full, begins(60, 30), full), [[200], [0], [200]])


class SeveralRefusals(unittest.TestCase):
    def test_a_range_counts_before_a_mark_twice(self):
        self.assertEqual(ask(para(0, plain(1, 5), plain(1, 5), plain(0))), [[-1]])
        self.assertEqual(ask(para(0, plain(1, 5)), para(0, plain(1, 5), digits(21)))[1], [-1])
        self.assertEqual(ask(para(0, plain(1, 21), plain(1, 21))), [[-1]])

    def test_a_range_counts_before_too_many(self):
        self.assertEqual(ask(para(0, *[plain(1)] * 200, plain(201))), [[-1]])

    def test_a_mark_twice_counts_before_too_many(self):
        self.assertEqual(ask(para(0, *[plain(1)] * 199, plain(1, 5), plain(1, 5))), [[-3]])
        self.assertEqual(ask(para(0, *[plain(1)] * 199, plain(1, 5)), para(0, plain(1, 5)))[1], [-3])

    def test_all_three(self):
        self.assertEqual(ask(para(0, *[plain(1, 5)] * 201, plain(0))), [[-1]])


class NothingIsChanged(unittest.TestCase):
    def test_behind_each_refusal(self):
        book = [begins(10, 1), para(0, plain(5, 1), plain(5), digits(2))]
        refused = (
            (para(0), -1),
            (para(1, plain(1, 2), plain(0)), -1),
            (para(1, plain(1, 2), digits(21)), -1),
            (para(1, plain(1, 2), plain(1, 21)), -1),
            (para(1, plain(1, 2), plain(1, 1)), -3),
            (para(1, plain(1, 2), plain(1, 3), plain(1, 3)), -3),
            (para(1, plain(1, 2), *[plain(1)] * 197), -5),
        )
        for call, refusal in refused:
            with self.subTest(refusal=refusal, call=call[:12]):
                given = ask(*book, call, pass_(2), settles(), para(0, plain(1, 2)), pass_(2))
                # Had mark 2 been kept, the last paragraph would be refused.
                self.assertEqual(given[2:], [[refusal], [3, 1, 2, 2], [0, 1, 2], [4], [4, 1, 2, 2, 3]])

    def test_passes_asked_for_before_and_behind_a_refusal(self):
        book = [begins(10, 1), para(0, plain(5), plain(5))]
        given = ask(*book, pass_(1), para(0, plain(0)), pass_(1), para(0, plain(1)), pass_(1))
        self.assertEqual(given[2:], [[2, 1, 2], [-1], [2, 1, 2], [3], [3, 1, 2, 3]])


class WhenMarksCome(unittest.TestCase):
    def test_a_mark_of_a_later_paragraph_is_found(self):
        # The reference is 1 sign long, while there's no such mark, and 3, when it's on page 100.
        book = [begins(10, 1, 99), para(0, digits(9), plain(7))]
        self.assertEqual(last(*book, pass_(2)), [2, 99, 99])
        self.assertEqual(last(*book, para(0, plain(1, 9)), pass_(2)), [3, 99, 100, 101])


if __name__ == "__main__":
    unittest.main()

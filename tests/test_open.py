import unittest

from tests.helpers import ask, begins, digits, how_far, last, open_, para, pass_, plain, roman, shown


class WhichMarks(unittest.TestCase):
    def test_none(self):
        self.assertEqual(last(open_()), [0])
        self.assertEqual(last(begins(10, 1), open_()), [0])
        self.assertEqual(last(para(0, plain(5), plain(7, 3)), open_()), [0])
        self.assertEqual(last(para(0, plain(5, 3), digits(3), roman(3), how_far(3)), open_()), [0])

    def test_each_kind_of_reference(self):
        for reference in (digits, roman, how_far):
            with self.subTest(reference=reference.__name__):
                self.assertEqual(last(para(0, reference(7)), open_()), [1, 7])

    def test_a_plain_words_length_is_no_mark(self):
        self.assertEqual(last(para(0, plain(7), digits(8)), open_()), [1, 8])

    def test_several_in_the_order_in_which_they_are_told_of_first(self):
        words = [roman(20), how_far(3), digits(11), digits(1), plain(2), roman(3)]
        self.assertEqual(last(para(0, *words), open_()), [4, 20, 3, 11, 1])

    def test_one_told_of_many_times(self):
        words = [digits(9), roman(4), digits(9), how_far(9), roman(9), how_far(4)]
        self.assertEqual(last(para(0, *words), para(1, *words), open_()), [2, 9, 4])

    def test_through_several_paragraphs(self):
        given = ask(para(0, digits(9), roman(4)), open_(), para(1, how_far(2), digits(4)), open_())
        self.assertEqual(given, [[2], [2, 9, 4], [4], [3, 9, 4, 2]])

    def test_all_twenty(self):
        words = [digits(mark) for mark in range(20, 0, -1)]
        self.assertEqual(last(para(0, *words), open_()), [20] + list(range(20, 0, -1)))

    def test_marks_that_there_are_stand_out_of_the_order(self):
        words = [digits(1), digits(2, 4), digits(3), plain(1, 1), digits(4), digits(5, 3)]
        self.assertEqual(last(para(0, *words), open_()), [2, 2, 5])

    def test_a_reference_to_itself(self):
        self.assertEqual(last(para(0, how_far(6, 6), roman(5, 7)), open_()), [1, 5])


class WhenMarksCome(unittest.TestCase):
    def test_a_later_paragraph_brings_one(self):
        given = ask(para(0, digits(9), roman(4), digits(2)), open_(), para(0, plain(3, 4)), open_(),
                    para(0, plain(3, 9), digits(17, 2)), open_())
        self.assertEqual(given, [[3], [3, 9, 4, 2], [4], [2, 9, 2], [6], [1, 17]])

    def test_a_refused_paragraph_brings_none(self):
        book = para(0, digits(9), plain(1, 1))
        for refused, refusal in ((para(0, plain(1, 9), plain(0)), -1), (para(0, digits(8), digits(21)), -1),
                                 (para(0, plain(1, 9), digits(8, 1)), -3),
                                 (para(0, plain(1, 9), digits(8), *[plain(1)] * 199), -5)):
            with self.subTest(refused=refused[:12]):
                self.assertEqual(ask(book, refused, open_()), [[2], [refusal], [1, 9]])

    def test_another_book(self):
        given = ask(para(0, digits(9), plain(1, 4)), begins(10, 1), open_(), para(0, roman(4)), open_())
        self.assertEqual(given, [[2], [0], [0], [1], [1, 4]])

    def test_a_refused_begins_leaves_them(self):
        self.assertEqual(ask(para(0, digits(9)), begins(0, 1), open_()), [[1], [-1], [1, 9]])

    def test_it_changes_nothing(self):
        given = ask(para(0, digits(9), plain(2)), open_(), open_(), pass_(1), shown(1), para(0, plain(1, 9)), open_())
        self.assertEqual(given, [[2], [1, 9], [1, 9], [2, 1, 1], [1, 0, 1, 0], [3], [0]])


if __name__ == "__main__":
    unittest.main()

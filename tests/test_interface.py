import unittest

import truerefs.book
from tests.helpers import (HUGE, begins, digits, how_far, lines, open_, para, pass_, plain, roman, set_once,
                           settles, shown, trues)
from truerefs.book import answers


def joined(*calls):
    return [number for call in calls for number in call]


# All eight calls. Mark 1 makes the second book settle on page 12; it would be true on page 11 too.
MANY = joined(
    settles(), pass_(1), lines(0), shown(0), trues(), open_(),
    para(0, plain(3, 2), digits(1)), open_(), pass_(401), lines(401), shown(HUGE), begins(10, 1, 9, 4, 16, 51),
    begins(10, 1, 9), para(0, roman(1), how_far(1), plain(6)), para(1, plain(1, 1)), para(0, plain(2, 1)),
    pass_(0), pass_(1), pass_(2), settles(),
    lines(0), lines(1),
    shown(1), shown(2),
    trues(), open_(), para(0, how_far(7), how_far(6)), trues(), open_(),
)
MANY_ANSWERED = [
    3, 0, 0, 0, 1, 0, 1, 0, 1, 0, 1, 1, 1, 0,
    1, 2, 2, 1, 1, 1, -1, 1, -1, 1, -1, 1, -1,
    1, 0, 1, 3, 1, 4, 1, -3,
    5, 4, 0, 0, 0, 0, 5, 4, 9, 9, 9, 10, 5, 4, 9, 10, 11, 12, 3, 0, 2, 12,
    7, 2, 0, 9, 0, 3, 10, 0, 13, 4, 0, 9, 0, 1, 10, 0, 2, 11, 0, 3, 12, 0,
    8, 2, 0, 1, 1, 10, 1, 16, 3, 9, 2, 0, 3, 1, 12, 1, 7, 1, 12,
    5, 2, 9, 9, 10, 11, 1, 0, 1, 6, 1, -5, 3, 2, 7, 6,
]


class WatchedList(list):
    """A list that counts how often it is changed."""

    def __init__(self, *given):
        super().__init__(*given)
        self.changes = 0

    def changed(self, *given, **named):
        self.changes += 1

    append = clear = extend = insert = pop = remove = reverse = sort = changed
    __setitem__ = __delitem__ = __iadd__ = __imul__ = changed


class Calls(unittest.TestCase):
    def test_the_numbers_as_they_stand(self):
        self.assertEqual(answers([0, 6, 60, 30, 1, 4, 16, 5, 0]), [1, 0])
        self.assertEqual(answers([1, 4, 0, 0, 7, 0, 0]), [1, 1])
        self.assertEqual(answers([1, 7, 1, 0, 7, 3, 3, 3, 0, 0]), [1, 2])
        self.assertEqual(answers([1, 1, 0, 0]), [1, -1])
        self.assertEqual(answers([2, 1, 0, 0]), [1, 0])
        self.assertEqual(answers([2, 1, 401, 0]), [1, -1])
        self.assertEqual(answers([3, 0, 0]), [3, 0, 0, 0])
        self.assertEqual(answers([4, 1, 0, 0]), [1, 0])
        self.assertEqual(answers([4, 1, 401, 0]), [1, -1])
        self.assertEqual(answers([5, 1, 0, 0]), [1, 0])
        self.assertEqual(answers([5, 1, 401, 0]), [1, -1])
        self.assertEqual(answers([6, 0, 0]), [1, 1])
        self.assertEqual(answers([7, 0, 0]), [1, 0])
        self.assertEqual(answers([1, 4, 0, 1, 7, 7, 0, 4, 1, 1, 0, 5, 1, 1, 0, 6, 0, 0, 7, 0, 0]),
                         [1, 1, 4, 1, 0, 1, 0, 5, 1, 0, 1, 1, 1, 2, 1, 1, 1, 0])
        self.assertEqual(answers([1, 4, 1, 3, 8, 7, 0, 4, 1, 1, 0, 5, 1, 1, 0, 6, 0, 0, 7, 0, 0]),
                         [1, 1, 4, 1, 0, 1, 0, 4, 1, 0, 1, 0, 2, 1, 1, 2, 1, 8])
        self.assertEqual(answers([1, 4, 0, 0, 7, 0, 0, 2, 1, 1, 0, 3, 0, 0]), [1, 1, 2, 1, 1, 3, 0, 1, 1])

    def test_several_one_behind_another(self):
        self.assertEqual(answers(MANY), MANY_ANSWERED)

    def test_the_same_when_called_again(self):
        self.assertEqual([answers(MANY) for k in range(3)], [MANY_ANSWERED] * 3)

    def test_each_time_the_book_is_new(self):
        answers(joined(begins(7, 3, 50), para(0, plain(3, 2))))
        self.assertEqual(answers(joined(pass_(1), para(0, plain(59, 2)), settles())), [1, 0, 1, 1, 3, 0, 1, 1])

    def test_answers_are_not_shared(self):
        given = answers(MANY)
        given[:] = []
        self.assertEqual(answers(MANY), MANY_ANSWERED)

    def test_by_the_modules_full_name(self):
        self.assertEqual(truerefs.book.answers(calls=[3, 0, 0]), [3, 0, 0, 0])


class WhatIsHandedIn(unittest.TestCase):
    def test_it_is_the_same_behind_the_call(self):
        calls = list(MANY)
        answers(calls)
        self.assertEqual(calls, MANY)

    def test_it_is_not_changed_for_a_while_either(self):
        calls = WatchedList(MANY)
        self.assertEqual(answers(calls), MANY_ANSWERED)
        self.assertEqual(calls.changes, 0)
        self.assertEqual(list(calls), MANY)


class WhatIsGivenBack(unittest.TestCase):
    def test_it_is_a_list_of_whole_numbers(self):
        given = answers(joined(MANY, para(0, plain(200)), settles(), pass_(400), lines(400), shown(400)))
        self.assertIs(type(given), list)
        self.assertEqual({type(number) for number in given}, {int})


class LongInputs(unittest.TestCase):
    def test_sixty_calls_with_many_words(self):
        full = para(0, *[plain(1 + k % 9, k if k <= 20 else 0) if k % 3 else how_far(1 + k % 20) for k in range(200)])
        calls = joined(*[call for k in range(20) for call in (begins(20, 2, 95 + k), full, pass_(400 - k))])
        self.assertLessEqual(len(calls), 30000)
        given = answers(calls)
        self.assertEqual(len(given), 20 * (2 + 2 + 202))

    def test_sixty_calls_with_trues_of_many_tries(self):
        # Three marks and 31 pages, and 197 references that change their lengths.
        words = [roman(1 + k % 3, {50: 1, 120: 2, 199: 3}.get(k, 0)) for k in range(200)]
        asked = [call for n in range(18) for call in (pass_(n), lines(n), shown(n))]
        calls = joined(begins(20, 7, 85), para(0, *words), *asked, trues(), trues(), trues(), open_())
        given = answers(calls)
        one_of_trues = given[-2 - 202:-2]
        self.assertEqual(one_of_trues[:2], [201, 1])
        self.assertEqual(set_once((20, 7, 85, 4, 16, 5), [(0, words)], one_of_trues[2:]), one_of_trues[2:])
        self.assertEqual(given[-2 - 3 * 202:], one_of_trues * 3 + [1, 0])

    def test_paragraphs_told_with_250_words(self):
        calls = joined(*[para(0, *[digits(20)] * 250) for k in range(30)], settles())
        self.assertEqual(answers(calls), [1, -5] * 30 + [3, 0, 0, 0])

    def test_a_book_of_as_many_pages_as_there_are_words(self):
        calls = joined(begins(1, 1, 3000), para(0, *[roman(1) for k in range(199)], plain(1, 1)), pass_(2), settles())
        self.assertEqual(answers(calls), [1, 0, 1, 200, 201, 200] + list(range(3000, 3200)) + [3, 0, 1, 3199])


if __name__ == "__main__":
    unittest.main()

"""How calls are handed in and what is given back, and the call begins."""

import unittest

from middlerules.steps import UnknownCall, answers
from tests.helper import ask, begins, composed, fact, gone, last, listing, one, two

RULES = [one([0, 0, 1], [2, 0, 1]), two([2, 0, 1], [4, 0, 1])]
LISTED = listing(([0, 0, 1], [4, 0, 1]))


def flat(calls):
    return [number for call in calls for number in call]


class Guarded(list):
    """A list that allows no change."""

    def refuse(self, *args, **kwargs):
        raise AssertionError("the list that was handed in is changed")

    append = extend = insert = pop = remove = clear = sort = reverse = refuse
    __setitem__ = __delitem__ = __iadd__ = __imul__ = refuse


class Begins(unittest.TestCase):
    def test_alone(self):
        self.assertEqual(answers([0]), [1, 0])

    def test_in_the_middle(self):
        calls = [*RULES, fact(0, 1, 2), composed(), begins(), composed(), fact(0, 1, 2), gone(0, 1, 2), gone(0, 1, 2)]
        given = ask(*calls, *RULES, composed())
        self.assertEqual(given, [[0], [0], [1], LISTED, [0], [0], [1], [0], [-2], [0], [0], LISTED])

    def test_removes_the_rules_of_each_step(self):
        self.assertEqual(last(*RULES, begins(), RULES[0], composed()), [0])
        self.assertEqual(last(*RULES, begins(), RULES[1], composed()), [0])

    def test_without_begins(self):
        self.assertEqual(ask(*RULES, fact(1, 0, 0), composed()), [[0], [0], [1], LISTED])

    def test_ahead_of_all_it_makes_no_difference(self):
        calls = [*RULES, fact(1, 0, 0), composed()]
        self.assertEqual(ask(begins(), *calls), [[0]] + ask(*calls))


class Answers(unittest.TestCase):
    def test_count_ahead_of_each_call(self):
        calls = flat([*RULES, composed(), fact(0, 1, 2), fact(0, 1, 2), gone(0, 1, 2), gone(0, 1, 2), [5], [0], [5]])
        expected = [1, 0, 1, 0, 9, 1, 1, 0, 0, 1, 1, 4, 0, 1, 1, 1, 1, -4, 1, 0, 1, -2, 9, 1, 1, 0, 0, 1, 1, 4, 0, 1]
        self.assertEqual(answers(calls), expected + [1, 0, 1, 0])

    def test_composed_without_rules(self):
        self.assertEqual(answers([5]), [1, 0])

    def test_rows_of_every_length(self):
        for length in range(25):
            for other in (0, 1, 24):
                calls = [one([5] * length, [5] * other), two([1] * other, [1] * length), fact(0, 3, 3)]
                self.assertEqual(ask(*calls), [[-1], [-1], [1]])

    def test_sixty_calls(self):
        self.assertEqual(answers([0] * 60), [1, 0] * 60)
        calls = ([*RULES, fact(0, 1, 2), composed(), gone(0, 1, 2), begins()]) * 10
        self.assertEqual(ask(*calls), [[0], [0], [1], LISTED, [0], [0]] * 10)

    def test_sixty_long_calls(self):
        calls = [one([4294967295] * 24, [4294967295] * 24)] * 58 + [fact(0, 1, 2), composed()]
        self.assertEqual(ask(*calls), [[-1]] * 58 + [[1], [0]])

    def test_sixty_calls_with_long_answers(self):
        both_ways = one([0, 0, 1, 1, 2, 3], [2, 0, 3, 2, 3, 0])
        apart = [two([2, 0, 1, 2, 2, 3], [table, 0, 2, table, 1, 3]) for table in (4, 5)]
        calls = [both_ways, one([1, 0, 1, 0, 2, 3], [2, 0, 3, 2, 3, 0]), *apart] + [composed()] * 56
        given = ask(*calls)
        self.assertEqual(given[:4], [[0], [1], [0], [1]])
        self.assertEqual([len(answer) for answer in given[4:]], [1 + 32 * (1 + 12 + 1 + 6)] * 56)

    def test_number_of_no_call(self):
        with self.assertRaises(UnknownCall):
            answers([0, 11])

    def test_whole_numbers_in_a_list(self):
        given = answers(flat([*RULES, composed(), fact(0, 1, 2), fact(0, 1, 2), begins()]))
        self.assertIs(type(given), list)
        self.assertEqual({type(number) for number in given}, {int})


class WhatIsHandedIn(unittest.TestCase):
    CALLS = flat([*RULES, composed(), fact(0, 1, 2), fact(0, 1, 2), one([9], []), begins(), *RULES, gone(0, 1, 2)])

    def test_stays_as_it_was(self):
        calls = list(self.CALLS)
        answers(calls)
        self.assertEqual(calls, self.CALLS)

    def test_is_not_changed_for_a_while(self):
        self.assertEqual(answers(Guarded(self.CALLS)), answers(list(self.CALLS)))

    def test_answer_is_another_list_each_time(self):
        first = answers(list(self.CALLS))
        copy = list(first)
        second = answers(list(self.CALLS))
        self.assertEqual(first, second)
        first.clear()
        self.assertEqual(second, copy)

    def test_two_lists_do_not_see_each_other(self):
        self.assertEqual(ask(*RULES, *RULES, fact(0, 1, 2), composed())[:4], [[0], [0], [1], [1]])
        self.assertEqual(ask(composed(), gone(0, 1, 2), fact(0, 1, 2)), [[0], [-2], [1]])
        self.assertEqual(ask(*RULES, composed(), fact(0, 1, 2)), [[0], [0], LISTED, [1]])

    def test_same_list_twice(self):
        calls = list(self.CALLS)
        self.assertEqual(answers(calls), answers(calls))


if __name__ == "__main__":
    unittest.main()

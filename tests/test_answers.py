"""How calls are handed in and what is given back, and the call begins."""

import unittest

from middlerules.steps import UnknownCall, answers
from tests.helper import (
    FIRST_RULES, SECOND_RULES, ask, begins, composed, composed_by_classes, computed_by_choice, counted, direct, end,
    fact, flat, goes, goes_by_choice, gone, in_atoms, lacks, lacks_by_choice, last, listing, middle, middle_by_choice,
    one, set_up, two,
)

RULES = [one([0, 0, 1], [2, 0, 1]), two([2, 0, 1], [4, 0, 1])]
LISTED = listing(([0, 0, 1], [4, 0, 1]))
ASKING = [composed(), middle(), end(), direct(), goes([4, 1, 2]), lacks([4, 2, 1]), goes([4]), lacks([2, 0, 0])]
ASKED = [LISTED, counted((2, 1, 2)), counted((4, 1, 2)), counted((4, 1, 2)), [1], [1, 0, 0, 1, 1, 2], [-1], [-1]]
NOTHING = [[0], [0], [0], [0], [1], [0], [-1], [-1]]


class Guarded(list):
    """A list that allows no change."""

    def refuse(self, *args, **kwargs):
        raise AssertionError("the list that was handed in is changed")

    append = extend = insert = pop = remove = clear = sort = reverse = refuse
    __setitem__ = __delitem__ = __iadd__ = __imul__ = refuse


class Begins(unittest.TestCase):
    def test_alone(self):
        self.assertEqual(answers([0]), [1, 0])

    def test_in_the_middle(self):
        calls = [*RULES, fact(0, 1, 2), composed(), begins(), composed(), fact(0, 1, 2), gone(0, 1, 2), gone(0, 1, 2)]
        given = ask(*calls, *RULES, composed())
        self.assertEqual(given, [[0], [0], [1], LISTED, [0], [0], [1], [0], [-2], [0], [0], LISTED])

    def test_removes_the_rules_of_each_step(self):
        self.assertEqual(last(*RULES, begins(), RULES[0], composed()), [0])
        self.assertEqual(last(*RULES, begins(), RULES[1], composed()), [0])

    def test_without_begins(self):
        self.assertEqual(ask(*RULES, fact(1, 0, 0), composed()), [[0], [0], [1], LISTED])

    def test_between_calls_that_ask(self):
        given = ask(*RULES, fact(0, 1, 2), *ASKING, begins(), *ASKING, fact(0, 1, 2), *RULES, *ASKING)
        self.assertEqual(given[3:], [*ASKED, [0], *NOTHING, [1], [0], [0], *ASKED])

    def test_ahead_of_all_it_makes_no_difference(self):
        calls = [*RULES, fact(1, 0, 0), composed()]
        self.assertEqual(ask(begins(), *calls), [[0]] + ask(*calls))


class Answers(unittest.TestCase):
    def test_count_ahead_of_each_call(self):
        calls = flat([*RULES, composed(), fact(0, 1, 2), fact(0, 1, 2), gone(0, 1, 2), gone(0, 1, 2), [5], [0], [5]])
        expected = [1, 0, 1, 0, 9, 1, 1, 0, 0, 1, 1, 4, 0, 1, 1, 1, 1, -4, 1, 0, 1, -2, 9, 1, 1, 0, 0, 1, 1, 4, 0, 1]
        self.assertEqual(answers(calls), expected + [1, 0, 1, 0])

    def test_count_ahead_of_each_call_that_asks(self):
        calls = flat([*RULES, fact(0, 1, 2), middle(), end(), direct(), goes([]), lacks([]), goes([4]), lacks([4])])
        expected = [1, 0, 1, 0, 1, 1, 4, 1, 2, 1, 2, 4, 1, 4, 1, 2, 4, 1, 4, 1, 2, 1, 0, 6, 1, 0, 0, 1, 1, 2, 1, -1]
        self.assertEqual(answers(calls), expected + [1, -1])

    def test_each_call_alone(self):
        for call, answer in zip(ASKING, NOTHING):
            self.assertEqual(ask(call), [answer])
        self.assertEqual(answers([5]), [1, 0])

    def test_an_error_is_one_negative_number_alone(self):
        for given in (goes([4] * 24), lacks([4] * 24), goes([4]), lacks([5, 20, 1])):
            self.assertEqual(answers(flat([*RULES, fact(0, 1, 2), given]))[-2:], [1, -1])

    def test_rows_of_every_length(self):
        for length in range(25):
            for other in (0, 1, 24):
                calls = [one([5] * length, [5] * other), two([1] * other, [1] * length), fact(0, 3, 3)]
                self.assertEqual(ask(*calls), [[-1], [-1], [1]])
                answer = [0 if other == 0 else -1]
                calls = [goes([4] * length), fact(0, 3, 3), lacks([6] * other), fact(0, 3, 4)]
                self.assertEqual(ask(*calls)[1:], [[1], answer, [2]])

    def test_sixty_calls(self):
        self.assertEqual(answers([0] * 60), [1, 0] * 60)
        calls = ([*RULES, fact(0, 1, 2), composed(), gone(0, 1, 2), begins()]) * 10
        self.assertEqual(ask(*calls), [[0], [0], [1], LISTED, [0], [0]] * 10)

    def test_sixty_long_calls(self):
        calls = [one([4294967295] * 24, [4294967295] * 24)] * 58 + [fact(0, 1, 2), composed()]
        self.assertEqual(ask(*calls), [[-1]] * 58 + [[1], [0]])

    def test_sixty_calls_with_long_answers(self):
        both_ways = one([0, 0, 1, 1, 2, 3], [2, 0, 3, 2, 3, 0])
        apart = [two([2, 0, 1, 2, 2, 3], [table, 0, 2, table, 1, 3]) for table in (4, 5)]
        calls = [both_ways, one([1, 0, 1, 0, 2, 3], [2, 0, 3, 2, 3, 0]), *apart] + [composed()] * 56
        given = ask(*calls)
        self.assertEqual(given[:4], [[0], [1], [0], [1]])
        self.assertEqual([len(answer) for answer in given[4:]], [1 + 32 * (1 + 12 + 1 + 6)] * 56)

    def check_sixty_calls(self, state, given):
        """Twelve calls of direct, goes and lacks among sixty."""
        two_steps = middle_by_choice(state[0], state[2])
        expected = [
            counted(*two_steps),
            counted(*computed_by_choice(in_atoms(state[1]), two_steps)),
            counted(*computed_by_choice(composed_by_classes(state[0], state[1]), state[2])),
            goes_by_choice(*state, given),
            lacks_by_choice(*state, given),
        ]
        group = [middle(), end(), direct(), goes(flat(given)), lacks(flat(given))]
        calls = [*set_up(*state), *group * 4, *[middle(), end(), composed()] * 10, begins()]
        self.assertEqual(len(calls), 60)
        answered = ask(*calls)
        self.assertEqual(answered[9:29], expected * 4)
        self.assertEqual(answered[29:31], expected[:2])
        self.assertEqual(answered[29:59], answered[29:32] * 10)

    def test_sixty_calls_with_twelve_of_direct_goes_and_lacks(self):
        facts = [(0, 1, 2), (0, 2, 1), (1, 2, 1), (1, 1, 1), (0, 2, 2)]
        given = [(4, 1, 2), (4, 2, 1), (4, 1, 1), (4, 2, 2), (5, 1, 100), (5, 2, 100)]
        for k in range(0, len(FIRST_RULES), 2):
            self.check_sixty_calls((FIRST_RULES[k:k + 2], SECOND_RULES[k:k + 2], facts), given)

    def test_sixty_calls_with_the_most_matches(self):
        # All pairs of ten values are middle facts, and each body of a second rule matches all pairs of these.
        pairs = [0, 0, 1, 0, 2, 3]
        first_rules = [(pairs, [2, 0, 2, 2, 1, 3]), (pairs, [2, 0, 3, 2, 3, 0])]
        second_rules = [([2, 0, 1, 2, 2, 3], [4, 0, 4, 5, 4, 4]), ([2, 0, 1, 2, 2, 3], [4, 4, 3, 4, 3, 4])]
        facts = [(0, 0, 1), (0, 2, 3), (0, 4, 5), (0, 6, 7), (0, 8, 9)]
        given = [(4, 100, 100), (4, 0, 0), (5, 0, 0), (5, 1, 1), (4, 1, 0), (4, 2, 2)]
        self.check_sixty_calls((first_rules, [([2, 0, 1, 2, 2, 3], [5, 4, 4, 4, 0, 1])] * 2, facts), given)
        answered = ask(*set_up(first_rules, second_rules, facts), middle(), end(), goes(flat(given)))
        self.assertEqual([answer[0] for answer in answered[9:]], [100, 2 * 10000 * 2, 0])

    def test_number_of_no_call(self):
        with self.assertRaises(UnknownCall):
            answers([0, 11])

    def test_whole_numbers_in_a_list(self):
        given = answers(flat([*RULES, fact(0, 1, 2), fact(0, 1, 2), *ASKING, goes([]), lacks([4, 1, 2]), begins()]))
        self.assertIs(type(given), list)
        self.assertEqual({type(number) for number in given}, {int})


class WhatIsHandedIn(unittest.TestCase):
    CALLS = flat([
        *RULES, *ASKING, fact(0, 2, 1), fact(0, 1, 2), fact(0, 1, 2), *ASKING, one([9], []), begins(), *RULES,
        gone(0, 1, 2), goes([5, 100, 4, 4, 1, 2, 4, 0, 0, 4, 1, 2]), lacks([5, 100, 4, 4, 1, 2, 4, 0, 0, 4, 1, 2]),
    ])

    def test_stays_as_it_was(self):
        calls = list(self.CALLS)
        answers(calls)
        self.assertEqual(calls, self.CALLS)

    def test_is_not_changed_for_a_while(self):
        self.assertEqual(answers(Guarded(self.CALLS)), answers(list(self.CALLS)))

    def test_answer_is_another_list_each_time(self):
        first = answers(list(self.CALLS))
        copy = list(first)
        second = answers(list(self.CALLS))
        self.assertEqual(first, second)
        first.clear()
        self.assertEqual(second, copy)

    def test_two_lists_do_not_see_each_other(self):
        self.assertEqual(ask(*RULES, *RULES, fact(0, 1, 2), composed())[:4], [[0], [0], [1], [1]])
        self.assertEqual(ask(composed(), gone(0, 1, 2), fact(0, 1, 2)), [[0], [-2], [1]])
        self.assertEqual(ask(*RULES, composed(), fact(0, 1, 2)), [[0], [0], LISTED, [1]])

    def test_calls_that_ask_do_not_see_the_list_before(self):
        self.assertEqual(ask(*RULES, fact(0, 1, 2), *ASKING)[3:], ASKED)
        self.assertEqual(ask(*ASKING), NOTHING)
        self.assertEqual(ask(*RULES, fact(0, 1, 2), *ASKING)[3:], ASKED)
        self.assertEqual(ask(*RULES, *ASKING)[2:], [LISTED] + NOTHING[1:])

    def test_same_list_twice(self):
        calls = list(self.CALLS)
        self.assertEqual(answers(calls), answers(calls))


if __name__ == "__main__":
    unittest.main()

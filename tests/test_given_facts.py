"""The calls goes and lacks: which facts may be given, and what is answered for those."""

import unittest

from tests.helper import (
    BIG, COPY_OF_0, COPY_OF_1, ask, begins, composed, fact, flat, goes, gone, lacks, last, one, rules, set_up, source,
    two,
)

COPIES = [COPY_OF_0, COPY_OF_1]
BOTH_WAYS = ([0, 0, 1], [2, 0, 1, 2, 1, 0])
COPY_ON = ([2, 0, 1], [4, 0, 1])
SEVEN = [(4, value, value) for value in range(7)]


class Given(unittest.TestCase):
    def answer(self, calls, given, *lacking):
        """What goes and lacks answer for the facts: 1 and 0, or 0 and 1 with what lacks."""
        expected = [[0], [1, *lacking]] if lacking else [[1], [0]]
        self.assertEqual(ask(*calls, goes(flat(given)), lacks(flat(given)))[-2:], expected, given)

    def refused(self, numbers, *calls):
        self.assertEqual(ask(*calls, goes(numbers), lacks(numbers))[-2:], [[-1], [-1]], numbers)

    def taken(self, numbers, *calls):
        """Without rules all facts that may be given correspond."""
        self.assertEqual(ask(*calls, goes(numbers), lacks(numbers))[-2:], [[1], [0]], numbers)


class WhatMayBeGiven(Given):
    STATE = set_up([COPY_OF_0], [COPY_ON], [(0, 1, 2)])

    def test_empty_list(self):
        self.taken([])
        self.answer(self.STATE, [], 0, 0, 1, 1, 2)
        self.answer(self.STATE[:2], [])

    def test_tables(self):
        for table in (0, 1, 2, 3, 4, 5, 6, 7, 100, BIG - 1, BIG):
            with self.subTest(table=table):
                check = self.taken if table in (4, 5) else self.refused
                check([table, 1, 2])
                check([4, 1, 2, table, 1, 2])
                check([table, 1, 2, 5, 1, 2])

    def test_values(self):
        for value in (0, 1, 19, 20, 21, 98, 99, 100, 101, 198, 199, 200, 201, BIG - 1, BIG):
            with self.subTest(value=value):
                check = self.taken if value < 20 or 100 <= value <= 199 else self.refused
                check([4, value, 2])
                check([5, 100, value])
                check([4, 1, 1, 5, value, value, 4, 2, 2])

    def test_lengths(self):
        for length in range(25):
            with self.subTest(length=length):
                check = self.taken if length % 3 == 0 and length <= 18 else self.refused
                check(([4, 1, 2] * 8)[:length])
                check(flat((4, value, value) for value in range(100, 108))[:length])
                check([4] * length)

    def test_six_and_seven_facts(self):
        self.taken(flat(SEVEN[:6]))
        self.refused(flat(SEVEN))

    def test_a_fact_that_is_listed_twice_counts_twice(self):
        self.taken(flat(SEVEN[:5] + SEVEN[:1]))
        self.refused(flat(SEVEN[:6] + SEVEN[:1]))
        self.refused(flat(SEVEN[:6] + SEVEN[5:6]))
        self.taken([4, 1, 1] * 6)
        self.refused([4, 1, 1] * 7)

    def test_lists_of_24_numbers(self):
        self.refused([4, 1, 2] * 8)
        self.refused([0] * 24)
        self.refused([BIG] * 24)

    def test_rules_and_facts_do_not_change_what_is_refused(self):
        for numbers in ([4], [4, 1], [4, 1, 2, 4], [2, 0, 0], [4, 20, 0], [5, 0, 99], [5, 200, 0], flat(SEVEN)):
            self.refused(numbers, *self.STATE)

    def test_facts_that_would_go_are_refused_when_one_more_is_invalid(self):
        self.answer(self.STATE, [(4, 1, 2)])
        for wrong in ([4], [4, 1], [2, 1, 2], [6, 1, 2], [4, 20, 2], [4, 1, 200]):
            self.refused([4, 1, 2] + wrong, *self.STATE)
            self.refused(wrong + [4, 1, 2], *self.STATE)


class Corresponding(Given):
    def test_no_rules(self):
        self.answer([], [])
        self.answer(source([(0, 1, 2)]), [(4, 1, 2)])

    def test_rules_of_one_step_alone(self):
        self.answer(set_up(COPIES, [], [(0, 1, 2)]), [])
        self.answer(set_up([], [COPY_ON] * 2, [(0, 1, 2)]), [])

    def test_no_source_facts(self):
        self.answer(set_up(COPIES, [COPY_ON], []), [])
        self.answer(set_up(COPIES, [COPY_ON], []), [(4, 1, 2)])

    def test_one_fact(self):
        state = set_up([COPY_OF_0], [COPY_ON], [(0, 1, 2)])
        self.answer(state, [(4, 1, 2)])
        for given in ([(4, 2, 1)], [(5, 1, 2)], [(4, 1, 1), (4, 2, 2)], [(4, 1, 100)], [(4, 101, 102)]):
            self.answer(state, given, 0, 0, 1, 1, 2)

    def test_more_than_needed(self):
        state = set_up([COPY_OF_0], [COPY_ON], [(0, 1, 2)])
        self.answer(state, [(5, 100, 7), (4, 2, 1), (4, 1, 2), (4, 19, 199), (5, 0, 0), (4, 3, 3)])

    def test_order_of_given_facts(self):
        state = set_up([COPY_OF_0], [COPY_ON], [(0, 1, 2), (0, 2, 3)])
        self.answer(state, [(4, 2, 3), (4, 1, 2)])
        self.answer(state, [(4, 1, 2), (4, 2, 3)])

    def test_a_fact_that_is_listed_twice(self):
        state = set_up([COPY_OF_0], [COPY_ON], [(0, 1, 2), (0, 2, 3)])
        self.answer(state, [(4, 1, 2), (4, 1, 2), (4, 2, 3)])
        self.answer(state, [(4, 1, 2), (4, 1, 2)], 0, 0, 2, 1, 3)
        self.answer(state, [(4, 2, 3)] * 6, 0, 0, 1, 1, 2)

    def test_six_facts_that_are_all_needed(self):
        # Three first values and two second ones: the middle, and so the end, has all six pairs.
        state = set_up([([0, 0, 1, 0, 2, 3], [2, 0, 3])], [COPY_ON], [(0, 1, 2), (0, 3, 4), (0, 5, 2)])
        needed = [(4, a, b) for a in (1, 3, 5) for b in (2, 4)]
        self.answer(state, needed)
        self.answer(state, needed[::-1])
        for one_fact in needed:
            self.assertEqual(last(*state, goes(flat(set(needed) - {one_fact}))), [0])

    def test_head_of_two_atoms(self):
        state = set_up([COPY_OF_0], [([2, 0, 1], [4, 0, 1, 5, 1, 0])], [(0, 1, 2)])
        self.answer(state, [(4, 1, 2), (5, 2, 1)])
        self.answer(state, [(4, 1, 2)], 0, 0, 1, 1, 2)
        self.answer(state, [(5, 2, 1)], 0, 0, 1, 1, 2)

    def test_equal_atoms_in_a_head(self):
        state = set_up([COPY_OF_0], [([2, 0, 1], [4, 0, 3, 4, 0, 3])], [(0, 1, 2)])
        self.answer(state, [(4, 1, 7)])


class ExistentialVariables(Given):
    def test_any_value_suits(self):
        state = set_up([COPY_OF_0], [([2, 0, 1], [5, 0, 3])], [(0, 1, 2)])
        for value in (0, 1, 2, 19, 100, 199):
            self.answer(state, [(5, 1, value)])
        self.answer(state, [(5, 2, 1)], 0, 0, 1, 1, 2)
        self.answer(state, [(4, 1, 1)], 0, 0, 1, 1, 2)
        self.answer(state, [(5, 100, 1)], 0, 0, 1, 1, 2)

    def test_one_fact_for_several_matches(self):
        state = set_up([COPY_OF_0], [([2, 0, 1], [5, 0, 3])], [(0, 1, 2), (0, 1, 3), (0, 1, 4)])
        self.answer(state, [(5, 1, 0)])

    def test_same_value_for_several_matches(self):
        state = set_up([COPY_OF_0], [([2, 0, 1], [5, 0, 3])], [(0, 1, 2), (0, 2, 3)])
        self.answer(state, [(5, 1, 7), (5, 2, 7)])

    def test_same_value_in_both_atoms(self):
        state = set_up([COPY_OF_0], [([2, 0, 1], [4, 0, 3, 5, 3, 1])], [(0, 1, 2)])
        self.answer(state, [(4, 1, 7), (5, 7, 2)])
        self.answer(state, [(4, 1, 150), (5, 150, 2)])
        self.answer(state, [(4, 1, 7), (5, 8, 2)], 0, 0, 1, 1, 2)
        self.answer(state, [(4, 1, 100), (5, 101, 2)], 0, 0, 1, 1, 2)
        self.answer(state, [(4, 1, 100), (5, 7, 2)], 0, 0, 1, 1, 2)
        self.answer(state, [(4, 1, 7), (4, 1, 8), (4, 1, 9), (5, 6, 2), (5, 9, 2)])
        self.answer(state, [(4, 1, 9), (4, 1, 8), (4, 1, 7), (5, 6, 2), (5, 9, 1)], 0, 0, 1, 1, 2)

    def test_same_value_twice_in_an_atom(self):
        state = set_up([COPY_OF_0], [([2, 0, 1], [4, 4, 4])], [(0, 1, 2)])
        self.answer(state, [(4, 7, 7)])
        self.answer(state, [(4, 199, 199)])
        self.answer(state, [(4, 7, 8), (4, 100, 101), (5, 7, 7)], 0, 0, 1, 1, 2)

    def test_two_of_them(self):
        state = set_up([COPY_OF_0], [([2, 0, 1], [4, 0, 3, 5, 3, 4])], [(0, 1, 2)])
        self.answer(state, [(4, 1, 7), (5, 7, 7)])
        self.answer(state, [(4, 1, 8), (4, 1, 7), (5, 9, 8), (5, 7, 100)])
        self.answer(state, [(4, 1, 8), (4, 1, 7), (5, 9, 8), (5, 100, 7)], 0, 0, 1, 1, 2)

    def test_unknown_values_are_not_replaced(self):
        # A given unknown value stands for itself alone: neither for a known value nor for another unknown one.
        state = set_up([COPY_OF_0], [([2, 0, 1], [4, 0, 1, 5, 1, 3])], [(0, 1, 2)])
        self.answer(state, [(4, 1, 2), (5, 2, 100)])
        self.answer(state, [(4, 1, 2), (5, 100, 2)], 0, 0, 1, 1, 2)
        self.answer(state, [(4, 1, 100), (5, 2, 100)], 0, 0, 1, 1, 2)


class WhatLacks(Given):
    EXAMPLE = set_up(
        [BOTH_WAYS], [([2, 0, 1, 2, 1, 2], [4, 0, 2]), ([2, 0, 1], [5, 0, 3])], [(0, 1, 2), (0, 2, 3)],
    )

    def test_first_composed_rule_that_does_not_hold(self):
        state = set_up(COPIES, [([2, 0, 1], [4, 0, 1]), ([3, 0, 1], [5, 0, 3])], [(0, 1, 2), (1, 3, 4)])
        self.answer(state, [], 0, 0, 1, 1, 2)
        self.answer(state, [(5, 3, 3)], 0, 0, 1, 1, 2)
        self.answer(state, [(4, 1, 2)], 1, 0, 3, 1, 4)
        self.answer(state, [(4, 1, 2), (5, 3, 3)])

    def test_several_earlier_ones_hold(self):
        four = [(4, 1, 1), (4, 2, 2), (4, 1, 3), (4, 3, 1), (4, 3, 3)]
        self.answer(self.EXAMPLE, [(4, 1, 1), (4, 2, 2)], 0, 0, 1, 1, 2, 2, 3)
        # Rules 0, 1 and 2 are 0 0 1 0 1 2, head 4 0 2; 0 0 1 0 2 1, head 4 0 2; 0 0 1 0 0 2, head 4 1 2.
        self.answer(self.EXAMPLE, [(4, 1, 3)], 1, 0, 1, 1, 2, 2, 1)
        self.answer(self.EXAMPLE, [(4, 1, 1), (4, 1, 3), (4, 2, 2)], 2, 0, 2, 1, 3, 2, 3)
        self.answer(self.EXAMPLE, [(4, 1, 1), (4, 1, 3), (4, 3, 3), (4, 2, 2)], 3, 0, 2, 1, 3, 2, 1)
        self.answer(self.EXAMPLE, four, 4, 0, 1, 1, 2)
        self.answer(self.EXAMPLE, four + [(5, 2, 0)], 4, 0, 1, 1, 2)
        self.answer(self.EXAMPLE, four + [(5, 1, 0)], 4, 0, 2, 1, 3)

    def test_last_composed_rule(self):
        state = set_up([BOTH_WAYS], [([2, 0, 1], [5, 0, 3])], [(0, 1, 2), (0, 2, 3)])
        self.answer(state, [(5, 1, 0), (5, 2, 0)], 1, 0, 2, 1, 3)
        self.answer(state, [(5, 1, 0), (5, 2, 0), (5, 3, 0)])

    def test_rules_that_have_no_match_hold(self):
        state = set_up(COPIES, [([2, 0, 1], [4, 0, 1]), ([3, 0, 1], [5, 0, 1])], [(1, 1, 2)])
        self.answer(state, [], 1, 0, 1, 1, 2)

    def test_index_is_that_of_composed(self):
        # Each second rule has three choices, of which two give the same composed rule.
        second_rules = [([2, 0, 1], [4, 0, 0]), ([2, 1, 0], [5, 1, 1])]
        state = set_up([COPY_OF_0, BOTH_WAYS], second_rules, [(0, 1, 2)])
        self.assertEqual(last(*state, composed())[0], 4)
        self.answer(state, [(4, 1, 1)], 1, 0, 1, 1, 2)
        self.answer(state, [(4, 1, 1), (4, 2, 2)], 2, 0, 1, 1, 2)
        self.answer(state, [(4, 1, 1), (4, 2, 2), (5, 1, 1)], 3, 0, 1, 1, 2)

    def test_first_match(self):
        facts = [(0, 5, 0), (0, 1, 19), (0, 1, 2), (0, 3, 3)]
        state = set_up([COPY_OF_0], [COPY_ON], facts)
        self.answer(state, [], 0, 0, 1, 1, 2)
        self.answer(state, [(4, 1, 2)], 0, 0, 1, 1, 19)
        self.answer(state, [(4, 1, 2), (4, 1, 19), (4, 5, 0)], 0, 0, 3, 1, 3)
        self.answer(state, [(4, 3, 3), (4, 1, 2), (4, 1, 19)], 0, 0, 5, 1, 0)

    def test_first_match_of_two_atoms(self):
        # By the fact of the first atom, then by the fact of the second one, as the body lists them.
        facts = [(1, 3, 4), (0, 1, 2), (1, 0, 9), (0, 0, 5)]
        state = set_up(COPIES, [([3, 0, 1, 2, 2, 3], [4, 0, 2])], facts)
        self.answer(state, [], 0, 0, 0, 1, 9, 2, 0, 3, 5)
        self.answer(state, [(4, 0, 0)], 0, 0, 0, 1, 9, 2, 1, 3, 2)
        self.answer(state, [(4, 0, 0), (4, 0, 1)], 0, 0, 3, 1, 4, 2, 0, 3, 5)
        self.answer(state, [(4, 0, 0), (4, 0, 1), (4, 3, 0)], 0, 0, 3, 1, 4, 2, 1, 3, 2)
        self.answer(state, [(4, 0, 0), (4, 0, 1), (4, 3, 0), (4, 3, 1)])

    def test_first_match_of_four_atoms(self):
        pairs = ([0, 0, 1, 0, 2, 3], [2, 0, 3])
        state = set_up([pairs], [([2, 0, 1, 2, 2, 3], [4, 0, 3])], [(0, 1, 2), (0, 3, 4)])
        self.answer(state, [(4, 1, 2), (4, 1, 4), (4, 3, 4)], 0, 0, 3, 1, 4, 2, 1, 3, 2, 4, 1, 5, 2, 6, 1, 7, 2)
        self.answer(state, [(4, 1, 4), (4, 3, 4)], 0, 0, 1, 1, 2, 2, 1, 3, 2, 4, 1, 5, 2, 6, 1, 7, 2)

    def test_variables_of_the_body_alone(self):
        state = set_up([COPY_OF_0], [([2, 3, 1], [4, 0, 2, 5, 2, 4])], [(0, 5, 6)])
        self.answer(state, [], 0, 0, 5, 1, 6)
        self.answer(set_up([COPY_OF_0], [([2, 3, 3], [4, 0, 3])], [(0, 5, 5)]), [], 0, 0, 5)

    def test_variables_that_the_head_does_not_have(self):
        state = set_up([([0, 0, 1, 1, 2, 1], [2, 2, 2])], [([2, 4, 4], [4, 0, 0])], [(0, 5, 6), (1, 7, 6)])
        self.answer(state, [], 0, 0, 5, 1, 6, 2, 7)


class BetweenOtherCalls(Given):
    STATE = set_up([COPY_OF_0], [COPY_ON], [(0, 2, 3), (0, 1, 2)])

    def asked(self, *calls):
        """What goes and lacks answer for 4 1 2 after the calls."""
        return ask(*self.STATE, *calls, goes([4, 1, 2]), lacks([4, 1, 2]))[-2:]

    def test_facts_that_are_removed(self):
        self.assertEqual(self.asked(), [[0], [1, 0, 0, 2, 1, 3]])
        self.assertEqual(self.asked(gone(0, 1, 2)), [[0], [1, 0, 0, 2, 1, 3]])
        self.assertEqual(self.asked(gone(0, 2, 3)), [[1], [0]])
        self.assertEqual(self.asked(gone(0, 2, 3), fact(0, 2, 3)), [[0], [1, 0, 0, 2, 1, 3]])
        self.assertEqual(self.asked(gone(0, 2, 3), fact(0, 0, 0)), [[0], [1, 0, 0, 0, 1, 0]])

    def test_begins(self):
        self.assertEqual(self.asked(begins()), [[1], [0]])
        self.assertEqual(self.asked(begins(), *self.STATE), [[0], [1, 0, 0, 2, 1, 3]])
        self.assertEqual(self.asked(begins(), *self.STATE[:2]), [[1], [0]])
        self.assertEqual(self.asked(begins(), *self.STATE[1:]), [[1], [0]])

    def test_rules_that_are_added(self):
        self.assertEqual(self.asked(gone(0, 2, 3), one([0, 0, 1], [2, 1, 0])), [[0], [1, 1, 0, 1, 1, 2]])
        self.assertEqual(self.asked(gone(0, 2, 3), two([2, 0, 1], [5, 3, 3])), [[0], [1, 1, 0, 1, 1, 2]])

    def test_given_facts_are_not_kept(self):
        calls = [goes([4, 2, 3, 4, 1, 2]), lacks([4, 2, 3, 4, 1, 2]), goes([4, 2, 3]), lacks([4, 2, 3]), goes([])]
        given = ask(*self.STATE, *calls, lacks([]))[4:]
        self.assertEqual(given, [[1], [0], [0], [1, 0, 0, 1, 1, 2], [0], [1, 0, 0, 1, 1, 2]])

    def test_first_rules_alone_are_not_enough(self):
        self.assertEqual(ask(*rules([COPY_OF_0], []), fact(0, 1, 2), goes([]), lacks([]))[-2:], [[1], [0]])


if __name__ == "__main__":
    unittest.main()

"""The call composed, rule by rule and against another way to compose."""

import unittest
from itertools import product

from tests.helper import (
    COPY_OF_0, COPY_OF_1, FIRST_RULES, SECOND_RULES, ask, composed, composed_by_classes, composed_of, fact, gone, last,
    listing, renumbered, rules,
)

BOTH_WAYS = ([0, 0, 1], [2, 0, 1, 2, 1, 0])
PATH = ([0, 0, 1, 1, 1, 2], [2, 0, 2])


class Composed(unittest.TestCase):
    def lists(self, first_rules, second_rules, *expected):
        self.assertEqual(last(*rules(first_rules, second_rules), composed()), listing(*expected))


class NoChoice(Composed):
    def test_no_rules(self):
        self.lists([], [])

    def test_rules_of_one_step_alone(self):
        self.lists([COPY_OF_0, COPY_OF_1], [])
        self.lists([], [([2, 0, 1], [4, 0, 1])])

    def test_no_head_with_the_table(self):
        self.lists([COPY_OF_0], [([3, 0, 1], [4, 0, 1])])

    def test_no_head_with_one_of_two_tables(self):
        self.lists([COPY_OF_0], [([2, 0, 1, 3, 0, 1], [4, 0, 1])])
        self.lists([COPY_OF_0], [([3, 0, 1, 2, 0, 1], [4, 0, 1])])

    def test_beside_a_rule_with_a_choice(self):
        no_choice = ([2, 0, 1, 3, 0, 1], [4, 0, 1])
        choice = ([2, 0, 1], [5, 1, 0])
        self.lists([COPY_OF_0], [no_choice, choice], ([0, 0, 1], [5, 1, 0]))
        self.lists([COPY_OF_0], [choice, no_choice], ([0, 0, 1], [5, 1, 0]))


class Choices(Composed):
    def test_one_choice(self):
        self.lists([COPY_OF_0], [([2, 0, 1], [4, 0, 1])], ([0, 0, 1], [4, 0, 1]))
        self.lists([COPY_OF_1], [([3, 0, 1], [5, 1, 0])], ([1, 0, 1], [5, 1, 0]))

    def test_order_of_what_is_chosen_for_one_atom(self):
        other = ([1, 0, 1], [3, 0, 1, 2, 0, 0])
        second = ([2, 0, 1], [4, 0, 1])
        self.lists(
            [other, BOTH_WAYS], [second], ([1, 0, 1], [4, 0, 0]), ([0, 0, 1], [4, 0, 1]), ([0, 0, 1], [4, 1, 0]),
        )
        self.lists(
            [BOTH_WAYS, other], [second], ([0, 0, 1], [4, 0, 1]), ([0, 0, 1], [4, 1, 0]), ([1, 0, 1], [4, 0, 0]),
        )

    def test_order_of_what_is_chosen_for_two_atoms(self):
        self.lists(
            [BOTH_WAYS, ([1, 0, 1], [2, 0, 1])],
            [([2, 0, 1, 2, 1, 2], [4, 0, 2])],
            ([0, 0, 1, 0, 1, 2], [4, 0, 2]),
            ([0, 0, 1, 0, 2, 1], [4, 0, 2]),
            ([0, 0, 1, 1, 1, 2], [4, 0, 2]),
            ([0, 0, 1, 0, 0, 2], [4, 1, 2]),
            ([0, 0, 1, 0, 2, 0], [4, 1, 2]),
            ([0, 0, 1, 1, 0, 2], [4, 1, 2]),
            ([1, 0, 1, 0, 1, 2], [4, 0, 2]),
            ([1, 0, 1, 0, 2, 1], [4, 0, 2]),
            ([1, 0, 1, 1, 1, 2], [4, 0, 2]),
        )

    def test_atoms_of_two_tables(self):
        self.lists(
            [COPY_OF_0, COPY_OF_1],
            [([3, 0, 1, 2, 1, 2], [4, 2, 0])],
            ([1, 0, 1, 0, 1, 2], [4, 2, 0]),
        )

    def test_second_rules_in_order(self):
        path = ([2, 0, 1, 2, 1, 2], [4, 0, 2])
        single = ([2, 0, 1], [5, 0, 1])
        self.lists([COPY_OF_0], [path, single], ([0, 0, 1, 0, 1, 2], [4, 0, 2]), ([0, 0, 1], [5, 0, 1]))
        self.lists([COPY_OF_0], [single, path], ([0, 0, 1], [5, 0, 1]), ([0, 0, 1, 0, 1, 2], [4, 0, 2]))

    def test_most_rules(self):
        first_rules = [([0, 0, 1], [2, 0, 1, 2, 1, 0]), ([1, 0, 1], [2, 0, 1, 2, 1, 0])]
        second_rules = [([2, 0, 1, 2, 2, 3], [4, 0, 2]), ([2, 0, 1, 2, 2, 3], [5, 0, 2])]
        self.assertEqual(len(composed_of(first_rules, second_rules)), 32)


class Copies(Composed):
    def test_same_first_rule_chosen_twice(self):
        self.lists([PATH], [([2, 0, 1, 2, 1, 2], [4, 0, 2])], ([0, 0, 1, 1, 1, 2, 0, 2, 3, 1, 3, 4], [4, 0, 4]))

    def test_variables_of_copies_and_second_rule_differ(self):
        self.lists([PATH], [([2, 0, 2], [4, 1, 1])], ([0, 0, 1, 1, 1, 2], [4, 3, 3]))
        self.lists([PATH], [([2, 2, 0], [4, 2, 0])], ([0, 0, 1, 1, 1, 2], [4, 0, 2]))

    def test_most_variables(self):
        self.lists(
            [([0, 0, 1, 1, 2, 3], [2, 0, 3])],
            [([2, 0, 1, 2, 2, 3], [4, 3, 4, 5, 4, 0])],
            ([0, 0, 1, 1, 2, 3, 0, 4, 5, 1, 6, 7], [4, 7, 8, 5, 8, 0]),
        )

    def test_largest_variables(self):
        self.lists(
            [([0, 4, 3, 1, 3, 4], [2, 4, 3])],
            [([2, 4, 3, 2, 3, 4], [4, 4, 3])],
            ([0, 0, 1, 1, 1, 0, 0, 1, 0, 1, 0, 1], [4, 0, 1]),
        )


class EqualVariables(Composed):
    def test_equal_by_the_second_rule(self):
        self.lists([COPY_OF_0], [([2, 0, 0], [4, 0, 1])], ([0, 0, 0], [4, 0, 1]))
        self.lists([PATH], [([2, 3, 3], [4, 3, 3])], ([0, 0, 1, 1, 1, 0], [4, 0, 0]))

    def test_equal_by_the_first_rule(self):
        self.lists([([0, 0, 1], [2, 1, 1])], [([2, 0, 1], [4, 0, 1])], ([0, 0, 1], [4, 1, 1]))

    def test_equal_by_both_atoms(self):
        self.lists([COPY_OF_0], [([2, 0, 1, 2, 1, 0], [4, 0, 1])], ([0, 0, 1, 0, 1, 0], [4, 0, 1]))

    def test_chain(self):
        twin = ([0, 0, 1], [2, 0, 0])
        self.lists([twin], [([2, 0, 1, 2, 1, 2], [4, 0, 2])], ([0, 0, 1, 0, 0, 2], [4, 0, 0]))
        self.lists([twin], [([2, 0, 1, 2, 2, 1], [4, 2, 0])], ([0, 0, 1, 0, 0, 2], [4, 0, 0]))
        self.lists([twin], [([2, 1, 0, 2, 2, 1], [4, 2, 0])], ([0, 0, 1, 0, 0, 2], [4, 0, 0]))
        self.lists([twin], [([2, 0, 1, 2, 2, 3], [4, 1, 3])], ([0, 0, 1, 0, 2, 3], [4, 0, 2]))

    def test_chain_back_to_the_first_copy(self):
        self.lists(
            [([0, 0, 1, 0, 1, 2], [2, 0, 2]), ([1, 0, 1], [3, 0, 0])],
            [([2, 0, 1, 3, 0, 1], [4, 0, 1])],
            ([0, 0, 1, 0, 1, 0, 1, 0, 2], [4, 0, 0]),
        )


class EqualAtoms(Composed):
    def test_body_of_two_copies(self):
        self.lists([COPY_OF_0], [([2, 0, 1, 2, 0, 1], [4, 0, 1])], ([0, 0, 1], [4, 0, 1]))

    def test_body_of_one_copy(self):
        self.lists([([0, 0, 1, 0, 0, 1], [2, 0, 1])], [([2, 0, 1], [4, 0, 1])], ([0, 0, 1], [4, 0, 1]))

    def test_atoms_that_become_equal(self):
        self.lists([([0, 0, 1, 0, 1, 0], [2, 0, 1])], [([2, 0, 0], [4, 0, 0])], ([0, 0, 0], [4, 0, 0]))

    def test_only_the_first_is_kept(self):
        self.lists(
            [([0, 0, 1, 1, 1, 2], [2, 0, 1])],
            [([2, 0, 1, 2, 0, 1], [4, 0, 1])],
            ([0, 0, 1, 1, 1, 2, 1, 1, 3], [4, 0, 1]),
        )

    def test_atoms_of_two_tables_are_not_equal(self):
        self.lists([([0, 0, 1, 1, 0, 1], [2, 0, 1])], [([2, 0, 1], [4, 0, 1])], ([0, 0, 1, 1, 0, 1], [4, 0, 1]))

    def test_head_keeps_equal_atoms(self):
        self.lists([COPY_OF_0], [([2, 0, 1], [4, 0, 1, 4, 0, 1])], ([0, 0, 1], [4, 0, 1, 4, 0, 1]))

    def test_head_keeps_atoms_that_become_equal(self):
        self.lists([([0, 0, 0], [2, 0, 0])], [([2, 0, 1], [4, 0, 1, 4, 1, 0])], ([0, 0, 0], [4, 0, 0, 4, 0, 0]))


class ExistentialVariables(Composed):
    def test_one(self):
        self.lists([COPY_OF_0], [([2, 0, 1], [5, 0, 3])], ([0, 0, 1], [5, 0, 2]))
        self.lists([COPY_OF_0], [([2, 0, 1], [5, 4, 1])], ([0, 0, 1], [5, 2, 1]))

    def test_several(self):
        self.lists([COPY_OF_0], [([2, 3, 1], [4, 0, 4, 5, 4, 2])], ([0, 0, 1], [4, 2, 3, 5, 3, 4]))

    def test_none_of_the_head_is_in_the_body(self):
        self.lists([COPY_OF_0], [([2, 0, 0], [4, 1, 1])], ([0, 0, 0], [4, 1, 1]))


class EqualRules(Composed):
    X = ([0, 0, 1], [4, 0, 1])
    Y = ([0, 0, 1], [4, 1, 0])
    SECOND = ([2, 0, 1], [4, 0, 1])

    def test_equal_second_rules(self):
        self.lists([COPY_OF_0], [self.SECOND, self.SECOND], self.X)

    def test_equal_first_rules(self):
        self.lists([COPY_OF_0, COPY_OF_0], [self.SECOND], self.X)

    def test_equal_atoms_in_the_head_of_a_first_rule(self):
        self.lists([([0, 0, 1], [2, 0, 1, 2, 0, 1])], [self.SECOND], self.X)

    def test_equal_but_for_the_numbers_of_variables(self):
        self.lists([COPY_OF_0, ([0, 3, 0], [2, 3, 0])], [self.SECOND, ([2, 4, 2], [4, 4, 2])], self.X)

    def test_first_one_keeps_its_place(self):
        self.lists([BOTH_WAYS], [self.SECOND, ([2, 0, 1], [4, 1, 0])], self.X, self.Y)
        self.lists([BOTH_WAYS], [([2, 0, 1], [4, 1, 0]), self.SECOND], self.Y, self.X)

    def test_rules_that_are_not_equal(self):
        self.lists(
            [COPY_OF_0],
            [([2, 0, 1], [4, 0, 1, 5, 0, 1]), ([2, 0, 1], [5, 0, 1, 4, 0, 1])],
            ([0, 0, 1], [4, 0, 1, 5, 0, 1]),
            ([0, 0, 1], [5, 0, 1, 4, 0, 1]),
        )
        self.lists(
            [COPY_OF_0],
            [self.SECOND, ([2, 0, 1], [4, 0, 1, 4, 0, 1])],
            self.X,
            ([0, 0, 1], [4, 0, 1, 4, 0, 1]),
        )

    def test_same_meaning_in_another_order_is_not_equal(self):
        self.lists(
            [COPY_OF_0],
            [([2, 0, 1, 2, 1, 2], [4, 0, 2]), ([2, 1, 2, 2, 0, 1], [4, 0, 2])],
            ([0, 0, 1, 0, 1, 2], [4, 0, 2]),
            ([0, 0, 1, 0, 2, 0], [4, 2, 1]),
        )


class Numbering(Composed):
    def test_body_first(self):
        self.lists([([0, 3, 1], [2, 1, 3])], [([2, 4, 2], [4, 2, 4])], ([0, 0, 1], [4, 0, 1]))
        self.lists([([0, 1, 0], [2, 0, 1])], [([2, 0, 1], [4, 0, 1])], ([0, 0, 1], [4, 1, 0]))

    def test_first_variable_of_an_atom_first(self):
        self.lists([COPY_OF_0], [([2, 4, 4, 2, 3, 2], [4, 1, 0])], ([0, 0, 0, 0, 1, 2], [4, 3, 4]))

    def test_head_behind_the_body(self):
        self.lists([COPY_OF_0], [([2, 4, 3], [5, 2, 3, 4, 1, 0])], ([0, 0, 1], [5, 2, 1, 4, 3, 4]))


class WhatComposedLeaves(Composed):
    def test_asked_twice(self):
        given = ask(*rules([BOTH_WAYS], SECOND_RULES[:2]), composed(), composed())
        self.assertEqual(given[3], given[4])

    def test_facts_do_not_matter(self):
        calls = rules([BOTH_WAYS], SECOND_RULES[:2])
        self.assertEqual(
            last(*calls, fact(0, 1, 2), fact(1, 2, 2), gone(0, 1, 2), composed()), last(*calls, composed()),
        )

    def test_rules_between_two_calls(self):
        calls = [*rules([COPY_OF_0], []), composed(), *rules([], [([2, 0, 1], [4, 0, 1])]), composed()]
        calls += [*rules([COPY_OF_1], []), composed(), *rules([], [([3, 0, 1], [4, 0, 1])]), composed()]
        x = ([0, 0, 1], [4, 0, 1])
        given = ask(*calls)
        self.assertEqual(given[1::2], [listing(), listing(x), listing(x), listing(x, ([1, 0, 1], [4, 0, 1]))])


class AnotherWay(unittest.TestCase):
    def test_all_pairs_of_rules(self):
        first_sets = [[rule] for rule in FIRST_RULES] + [list(pair) for pair in product(FIRST_RULES, repeat=2)]
        second_sets = [[rule] for rule in SECOND_RULES] + [list(pair) for pair in product(SECOND_RULES, repeat=2)]
        for first_rules in first_sets:
            for second_rules in second_sets:
                found = composed_of(first_rules, second_rules)
                self.assertEqual(found, composed_by_classes(first_rules, second_rules), (first_rules, second_rules))
                # Point 5: each one once, variables numbered by first occurrence.
                self.assertEqual(len(found), len(set(found)))
                self.assertEqual(found, [renumbered(*rule) for rule in found])


if __name__ == "__main__":
    unittest.main()

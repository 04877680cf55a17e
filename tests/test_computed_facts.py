"""The calls middle, end and direct, fact by fact and against another way to compute them."""

import unittest

from tests.helper import (
    COPY_OF_0, COPY_OF_1, FACT_SETS, ask, begins, composed_by_classes, computed_by_choice, counted, direct, end, fact,
    gone, in_atoms, last, many_states, middle, middle_by_choice, one, rules, set_up, source, two,
)

COPIES = [COPY_OF_0, COPY_OF_1]
BOTH_WAYS = ([0, 0, 1], [2, 0, 1, 2, 1, 0])
PATH = [(0, 1, 2), (0, 2, 3), (0, 3, 4)]


class Middle(unittest.TestCase):
    def gives(self, first_rules, facts, *expected):
        self.assertEqual(last(*set_up(first_rules, [], facts), middle()), counted(*expected))

    def test_no_rules(self):
        self.gives([], [])
        self.gives([], PATH)
        self.assertEqual(last(*set_up([], [([2, 0, 1], [4, 0, 1])], PATH), middle()), [0])

    def test_no_facts(self):
        self.gives([COPY_OF_0, BOTH_WAYS], [])

    def test_body_of_one_atom(self):
        self.gives([COPY_OF_0], PATH, (2, 1, 2), (2, 2, 3), (2, 3, 4))
        self.gives([([0, 0, 1], [3, 1, 0])], [(0, 1, 2)], (3, 2, 1))
        self.gives([COPY_OF_0], [(1, 1, 2)])

    def test_body_of_two_atoms(self):
        facts = [(0, 1, 2), (0, 3, 4)]
        self.gives([([0, 0, 1, 0, 2, 3], [2, 0, 3])], facts, (2, 1, 2), (2, 1, 4), (2, 3, 2), (2, 3, 4))
        self.gives([([0, 0, 1, 1, 2, 3], [2, 0, 3])], [(0, 1, 2), (1, 3, 4)], (2, 1, 4))
        self.gives([([0, 0, 1, 1, 2, 3], [2, 0, 3])], PATH)

    def test_variable_twice_in_an_atom(self):
        self.gives([([0, 0, 0], [2, 0, 0])], [(0, 1, 2), (0, 3, 3), (1, 4, 4)], (2, 3, 3))
        self.gives([([0, 0, 1], [2, 1, 1])], [(0, 1, 2)], (2, 2, 2))

    def test_variable_in_both_atoms(self):
        self.gives([([0, 0, 1, 0, 1, 2], [2, 0, 2])], PATH, (2, 1, 3), (2, 2, 4))
        self.gives([([0, 0, 1, 0, 1, 0], [2, 0, 1])], PATH + [(0, 2, 1)], (2, 1, 2), (2, 2, 1))
        self.gives([([0, 0, 1, 1, 0, 1], [2, 0, 1])], PATH + [(1, 2, 3), (1, 3, 2)], (2, 2, 3))
        self.gives([([0, 0, 0, 0, 0, 1], [2, 1, 0])], [(0, 1, 1), (0, 1, 2)], (2, 1, 1), (2, 2, 1))

    def test_equal_atoms_in_a_body(self):
        self.gives([([0, 0, 1, 0, 0, 1], [2, 0, 1])], PATH, (2, 1, 2), (2, 2, 3), (2, 3, 4))

    def test_head_of_two_atoms(self):
        self.gives([([0, 0, 1], [3, 0, 1, 2, 1, 0])], [(0, 1, 2)], (2, 2, 1), (3, 1, 2))

    def test_equal_atoms_in_a_head(self):
        self.gives([([0, 0, 1], [2, 0, 1, 2, 0, 1])], [(0, 1, 2)], (2, 1, 2))
        self.gives([BOTH_WAYS], [(0, 1, 1)], (2, 1, 1))

    def test_facts_that_several_matches_give(self):
        self.gives([([0, 0, 1, 0, 0, 2], [2, 0, 0])], [(0, 1, 2), (0, 1, 3)], (2, 1, 1))
        self.gives([BOTH_WAYS], [(0, 1, 2), (0, 2, 1)], (2, 1, 2), (2, 2, 1))
        self.gives([COPY_OF_0, COPY_OF_0], [(0, 1, 2)], (2, 1, 2))
        self.gives([COPY_OF_0, ([1, 0, 1], [2, 1, 0])], [(0, 1, 2), (1, 2, 1)], (2, 1, 2))

    def test_order_of_facts(self):
        turned = [([1, 0, 1], [2, 1, 0]), ([0, 0, 1], [3, 1, 0])]
        facts = [(1, 3, 19), (1, 10, 2), (0, 2, 9), (0, 19, 3), (1, 1, 2)]
        self.gives(turned, facts, (2, 2, 1), (2, 2, 10), (2, 19, 3), (3, 3, 19), (3, 9, 2))
        self.gives(turned[::-1], facts[::-1], (2, 2, 1), (2, 2, 10), (2, 19, 3), (3, 3, 19), (3, 9, 2))

    def test_rules_do_not_go_on_from_what_they_give(self):
        self.gives([([0, 0, 1, 0, 1, 2], [2, 0, 2])], PATH + [(0, 4, 5)], (2, 1, 3), (2, 2, 4), (2, 3, 5))


class EndAndDirect(unittest.TestCase):
    def by_copies(self, second_rules, facts, *expected):
        """End and direct for copied facts, where composed rules and second rules have the same matches."""
        given = ask(*set_up(COPIES, second_rules, facts), end(), direct())
        self.assertEqual(given[-2:], [counted(*expected), counted(*expected)])


class WithoutUnknownValues(EndAndDirect):
    def test_no_rules_and_no_facts(self):
        self.by_copies([], [])
        self.by_copies([], PATH)
        self.by_copies([([2, 0, 1], [4, 0, 1])], [])

    def test_rules_of_one_step_alone(self):
        for first_rules, second_rules in (([], []), (COPIES, []), ([], [([2, 0, 1], [4, 0, 1])] * 2)):
            self.assertEqual(ask(*set_up(first_rules, second_rules, PATH), end(), direct())[-2:], [[0], [0]])

    def test_bodies(self):
        facts = [(0, 1, 2), (0, 2, 2), (1, 2, 1)]
        self.by_copies([([2, 0, 1], [4, 1, 0])], facts, (4, 2, 1), (4, 2, 2))
        self.by_copies([([2, 0, 0], [5, 0, 0])], facts, (5, 2, 2))
        self.by_copies([([3, 0, 1], [5, 0, 1])], facts, (5, 2, 1))
        self.by_copies([([2, 0, 1, 3, 1, 2], [4, 0, 2])], facts, (4, 1, 1), (4, 2, 1))
        self.by_copies([([2, 0, 1, 3, 1, 0], [4, 0, 1])], facts, (4, 1, 2))
        self.by_copies([([3, 0, 1, 3, 0, 1], [4, 0, 1])], facts, (4, 2, 1))
        self.by_copies([([2, 0, 0, 3, 0, 1], [4, 0, 1])], facts, (4, 2, 1))
        self.by_copies([([2, 0, 1, 2, 2, 3], [4, 0, 2])], facts, (4, 1, 1), (4, 1, 2), (4, 2, 1), (4, 2, 2))
        self.by_copies([([3, 0, 1, 3, 1, 2], [4, 0, 2])], facts)

    def test_heads(self):
        facts = [(0, 1, 2)]
        self.by_copies([([2, 0, 1], [5, 0, 1, 4, 1, 0])], facts, (4, 2, 1), (5, 1, 2))
        self.by_copies([([2, 0, 1], [4, 0, 1, 4, 0, 1])], facts, (4, 1, 2))
        self.by_copies([([2, 0, 1], [4, 0, 3, 4, 0, 3])], facts, (4, 1, 100))
        self.by_copies([([2, 0, 1], [4, 1, 1])], facts, (4, 2, 2))

    def test_facts_that_several_matches_give(self):
        self.by_copies([([2, 0, 1, 2, 0, 2], [4, 0, 0])], [(0, 1, 2), (0, 1, 3)], (4, 1, 1))
        self.by_copies([([2, 0, 1], [4, 0, 1]), ([3, 0, 1], [4, 1, 0])], [(0, 1, 2), (1, 2, 1)], (4, 1, 2))

    def test_facts_added_in_another_order(self):
        facts = [(1, 5, 0), (0, 9, 1), (0, 10, 0), (0, 1, 19), (1, 2, 2)]
        second_rules = [([3, 0, 1], [4, 0, 4]), ([2, 0, 1], [5, 1, 3])]
        expected = [(4, 2, 100), (4, 5, 101), (5, 0, 104), (5, 1, 103), (5, 19, 102)]
        self.by_copies(second_rules, facts, *expected)
        self.by_copies(second_rules, facts[::-1], *expected)
        self.by_copies(second_rules, sorted(facts), *expected)

    def test_order_of_the_middle_facts_counts(self):
        # The source facts come in the other order than the middle facts that they give.
        turned = [([0, 0, 1], [2, 1, 0])]
        second_rules = [([2, 0, 1], [4, 0, 4])]
        facts = [(0, 1, 9), (0, 2, 8)]
        given = ask(*set_up(turned, second_rules, facts), end(), direct())[-2:]
        self.assertEqual(given, [counted((4, 8, 100), (4, 9, 101)), counted((4, 8, 101), (4, 9, 100))])


class UnknownValues(EndAndDirect):
    def test_one_in_a_head(self):
        self.by_copies([([2, 0, 1], [4, 0, 2])], PATH, (4, 1, 100), (4, 2, 101), (4, 3, 102))
        self.by_copies([([2, 0, 1], [4, 3, 3])], PATH, (4, 100, 100), (4, 101, 101), (4, 102, 102))

    def test_two_in_a_head(self):
        self.by_copies([([2, 0, 1], [5, 4, 3])], PATH[:2], (5, 100, 101), (5, 102, 103))
        self.by_copies([([2, 0, 1], [5, 4, 1, 4, 0, 3])], PATH[:2], (4, 1, 101), (4, 2, 103), (5, 100, 2), (5, 102, 3))

    def test_four_in_a_head(self):
        facts = [(0, 1, 1), (0, 2, 2)]
        expected = [(4, 100, 101), (4, 104, 105), (5, 102, 103), (5, 106, 107)]
        self.by_copies([([2, 0, 0], [4, 4, 1, 5, 3, 2])], facts, *expected)

    def test_same_one_in_both_atoms(self):
        self.by_copies([([2, 0, 1], [5, 0, 4, 4, 4, 1])], PATH[:2], (4, 100, 2), (4, 101, 3), (5, 1, 100), (5, 2, 101))
        self.by_copies([([2, 0, 1], [4, 3, 2, 5, 2, 4])], PATH[:1], (4, 100, 101), (5, 101, 102))

    def test_order_is_that_of_the_head(self):
        self.by_copies([([2, 0, 1], [5, 3, 2, 4, 2, 4])], PATH[:1], (4, 101, 102), (5, 100, 101))

    def test_each_match_has_its_own(self):
        self.by_copies([([2, 0, 1], [4, 0, 3])], [(0, 1, 2), (0, 1, 3)], (4, 1, 100), (4, 1, 101))
        self.by_copies([([2, 0, 1, 2, 0, 2], [4, 0, 3])], [(0, 1, 2), (0, 1, 3)], *[(4, 1, 100 + n) for n in range(4)])

    def test_a_head_that_the_facts_match_already_is_added_too(self):
        self.by_copies([([2, 0, 1], [4, 0, 1]), ([2, 0, 1], [4, 0, 3])], PATH[:1], (4, 1, 2), (4, 1, 100))

    def test_order_of_matches(self):
        # By what the first atom matches, then by what the second one matches.
        facts = [(0, 2, 1), (0, 1, 2), (1, 4, 5), (1, 3, 6)]
        expected = [(4, 1, 100), (4, 1, 101), (4, 2, 102), (4, 2, 103)]
        expected += [(5, 3, 100), (5, 3, 102), (5, 4, 101), (5, 4, 103)]
        self.by_copies([([2, 0, 1, 3, 2, 3], [4, 0, 4, 5, 2, 4])], facts, *expected)
        turned = [(4, 1, 100), (4, 1, 102), (4, 2, 101), (4, 2, 103)]
        turned += [(5, 3, 100), (5, 3, 101), (5, 4, 102), (5, 4, 103)]
        self.by_copies([([3, 2, 3, 2, 0, 1], [4, 0, 4, 5, 2, 4])], facts, *turned)

    def test_over_two_second_rules(self):
        second_rules = [([2, 0, 1], [5, 0, 3]), ([2, 0, 1], [4, 2, 1, 4, 4, 4])]
        expected = [(4, 102, 2), (4, 103, 103), (4, 104, 3), (4, 105, 105), (5, 1, 100), (5, 2, 101)]
        self.by_copies(second_rules, PATH[:2], *expected)
        expected = [(4, 100, 2), (4, 101, 101), (4, 102, 3), (4, 103, 103), (5, 1, 104), (5, 2, 105)]
        self.by_copies(second_rules[::-1], PATH[:2], *expected)

    def test_equal_second_rules_count_twice_in_two_steps_and_once_directly(self):
        calls = set_up(COPIES, [([2, 0, 1], [4, 0, 3])] * 2, PATH[:1])
        given = ask(*calls, end(), direct())[-2:]
        self.assertEqual(given, [counted((4, 1, 100), (4, 1, 101)), counted((4, 1, 100))])

    def test_known_and_unknown_values_in_order(self):
        second_rules = [([2, 0, 1], [4, 3, 0]), ([2, 0, 1], [4, 0, 1])]
        self.by_copies(second_rules, PATH[:2], (4, 1, 2), (4, 2, 3), (4, 100, 1), (4, 101, 2))

    def test_over_several_composed_rules(self):
        calls = set_up([BOTH_WAYS], [([2, 0, 1], [5, 0, 3])], [(0, 2, 1), (0, 1, 2)])
        given = ask(*calls, end(), direct())[-2:]
        self.assertEqual(given[0], counted((5, 1, 100), (5, 2, 101)))
        self.assertEqual(given[1], counted((5, 1, 100), (5, 1, 103), (5, 2, 101), (5, 2, 102)))

    def test_over_composed_rules_of_two_second_rules(self):
        second_rules = [([2, 0, 1], [4, 0, 4]), ([2, 0, 1, 2, 1, 2], [5, 3, 2])]
        calls = set_up([BOTH_WAYS], second_rules, [(0, 1, 2)])
        given = ask(*calls, end(), direct())[-2:]
        self.assertEqual(given[0], counted((4, 1, 100), (4, 2, 101), (5, 102, 1), (5, 103, 2)))
        # Composed rules 2 to 5: 0 0 1 0 1 2 (no match), 0 0 1 0 2 1, 0 0 1 0 0 2, 0 0 1 0 2 0 (no match).
        self.assertEqual(given[1], counted((4, 1, 100), (4, 2, 101), (5, 102, 1), (5, 103, 2)))


class BetweenOtherCalls(unittest.TestCase):
    RULES = rules([COPY_OF_0], [([2, 0, 1], [4, 0, 3])])
    ALL = [middle(), end(), direct()]

    def answers_for(self, *facts):
        own = [(4, one_fact[1], value) for value, one_fact in enumerate(sorted(facts), start=100)]
        return [counted(*[(2, a, b) for _, a, b in sorted(facts)]), counted(*own), counted(*own)]

    def test_gone(self):
        calls = [*self.RULES, *source(PATH[::-1]), *self.ALL, gone(0, 2, 3), *self.ALL, gone(0, 1, 2), gone(0, 3, 4)]
        given = ask(*calls, *self.ALL, fact(0, 2, 3), *self.ALL)
        self.assertEqual(given[5:8], self.answers_for(*PATH))
        self.assertEqual(given[9:12], self.answers_for(PATH[0], PATH[2]))
        self.assertEqual(given[14:17], self.answers_for())
        self.assertEqual(given[18:], self.answers_for(PATH[1]))

    def test_begins(self):
        calls = [*self.RULES, *source(PATH), *self.ALL, begins(), *self.ALL, *self.RULES, *self.ALL, fact(0, 3, 4)]
        given = ask(*calls, *self.ALL)
        self.assertEqual(given[5:8], self.answers_for(*PATH))
        self.assertEqual(given[9:12], [[0]] * 3)
        self.assertEqual(given[14:17], [[0]] * 3)
        self.assertEqual(given[18:], self.answers_for(PATH[2]))

    def test_rules_that_are_added(self):
        calls = [fact(0, 1, 2), *self.ALL, one([0, 0, 1], [2, 0, 1]), *self.ALL, two([2, 0, 1], [4, 0, 3]), *self.ALL]
        given = ask(*calls, two([2, 0, 1], [5, 3, 3]), *self.ALL)
        self.assertEqual(given[1:4], [[0]] * 3)
        self.assertEqual(given[5:8], [counted((2, 1, 2)), [0], [0]])
        self.assertEqual(given[9:12], self.answers_for((0, 1, 2)))
        self.assertEqual(given[13:], [counted((2, 1, 2))] + [counted((4, 1, 100), (5, 101, 101))] * 2)


class AnotherWay(unittest.TestCase):
    def test_many_rules_and_facts(self):
        for first_rules, second_rules, facts in many_states(23):
            given = ask(*set_up(first_rules, second_rules, facts), middle(), end(), direct())[-3:]
            middle_facts = middle_by_choice(first_rules, facts)
            expected = [
                counted(*middle_facts),
                counted(*computed_by_choice(in_atoms(second_rules), middle_facts)),
                counted(*computed_by_choice(composed_by_classes(first_rules, second_rules), facts)),
            ]
            self.assertEqual(given, expected, (first_rules, second_rules, facts))

    def test_order_in_which_facts_are_added_does_not_matter(self):
        for first_rules, second_rules, facts in many_states(101):
            given = ask(*set_up(first_rules, second_rules, facts), middle(), end(), direct())[-3:]
            turned = ask(*set_up(first_rules, second_rules, facts[::-1]), middle(), end(), direct())[-3:]
            self.assertEqual(given, turned, (first_rules, second_rules, facts))

    def test_the_states_differ(self):
        facts = [state[2] for state in many_states(23)]
        for one_set in FACT_SETS:
            self.assertGreater(facts.count(one_set), 20)


if __name__ == "__main__":
    unittest.main()

"""Points 6, 7 and 8 of the document's requirements."""

import unittest
from itertools import product

from tests.helper import (
    BIG, COPY_OF_0, COPY_OF_1, FIRST_RULES, SECOND_RULES, ask, atoms, begins, composed, composed_of, direct, end, fact,
    goes, gone, lacks, middle, one, renumbered, rules, two,
)

HEADS = ([4, 0, 1], [5, 4, 3], [4, 2, 2, 5, 0, 4])


def at_the_source(rule):
    """The rule with source tables in its body and its variables renamed."""
    body, head = rule
    return renumbered(tuple((table - 2, a, b) for table, a, b in atoms(body)), atoms(head))


class Point6(unittest.TestCase):
    COPIES = (
        [COPY_OF_0, COPY_OF_1],
        [COPY_OF_1, COPY_OF_0],
        [([0, 4, 2], [2, 4, 2]), ([1, 1, 0], [3, 1, 0])],
    )

    def bodies(self):
        single = [list(atom) for atom in product((2, 3), range(5), range(5))]
        few = [list(atom) for atom in product((2, 3), (0, 1, 4), (0, 1, 4))] + [[2, 2, 3], [3, 3, 2]]
        return single + [first + second for first, second in product(few, repeat=2) if first != second]

    def test_each_second_rule_is_a_composed_rule(self):
        for copies in self.COPIES:
            for body in self.bodies():
                for head in HEADS:
                    found = composed_of(copies, [(body, head)])
                    self.assertEqual(found, [at_the_source((body, head))], (copies, body, head))

    def test_two_second_rules(self):
        several = [rule for rule in SECOND_RULES if rule[0][:3] != rule[0][3:]]
        self.assertGreater(len(several), 6)
        for first, second in product(several, repeat=2):
            expected = list(dict.fromkeys([at_the_source(first), at_the_source(second)]))
            self.assertEqual(composed_of([COPY_OF_0, COPY_OF_1], [first, second]), expected)

    def test_equal_atoms_in_the_body(self):
        found = composed_of([COPY_OF_0, COPY_OF_1], [([3, 2, 0, 3, 2, 0], [4, 0, 2])])
        self.assertEqual(found, [(((1, 0, 1),), ((4, 1, 0),))])


class Point7(unittest.TestCase):
    def keeps(self, before, after):
        rest = iter(composed_of(*after))
        for rule in composed_of(*before):
            # As an iterator is used up, this asks for the order, too.
            self.assertIn(rule, rest, (before, after))

    def test_another_first_rule(self):
        for first, added in product(FIRST_RULES, repeat=2):
            for second_rules in ([rule] for rule in SECOND_RULES):
                self.keeps(([first], second_rules), ([first, added], second_rules))
                before = set(composed_of([first], second_rules))
                self.assertLessEqual(before, set(composed_of([added, first], second_rules)))

    def test_another_second_rule(self):
        for second, added in product(SECOND_RULES, repeat=2):
            for first_rules in ([rule] for rule in FIRST_RULES):
                self.keeps((first_rules, [second]), (first_rules, [second, added]))
                before = set(composed_of(first_rules, [second]))
                self.assertLessEqual(before, set(composed_of(first_rules, [added, second])))

    def test_within_one_request(self):
        calls = [*rules(FIRST_RULES[2:3], SECOND_RULES[2:3]), composed(), one(*FIRST_RULES[3]), composed()]
        given = ask(*calls, two(*SECOND_RULES[1]), composed())
        self.assertEqual([given[2][0], given[4][0], given[6][0]], [4, 9, 12])


class Point8(unittest.TestCase):
    FIRST = one([0, 0, 1], [2, 0, 1])
    SECOND = two([2, 0, 1], [4, 0, 1])
    STATES = (
        [],
        [FIRST, SECOND, fact(0, 1, 2)],
        [FIRST, FIRST, SECOND, SECOND] + [fact(0, 1, b) for b in range(5)],
    )
    WRONG = (
        (one([], []), -1),
        (one([0, 0, 1], [2, 0, 1] * 3), -1),
        (one([0, 0, 5], [3, 0, 0]), -1),
        (one([0, 0, 1], [4, 0, 1]), -1),
        (one([1, 0, 1], [2, 0, 1, 2, 0, 2]), -5),
        (two([2, 0, 1], []), -1),
        (two([2, 0, 1, 3], [5, 0, 1]), -1),
        (two([2, 0, 1], [5, 0, BIG]), -1),
        (two([1, 0, 1], [5, 0, 1]), -1),
        (fact(2, 1, 2), -1),
        (fact(0, 20, 1), -1),
        (fact(1, 1, BIG), -1),
        (gone(1, 1, 2), -2),
        (gone(0, 2, 1), -2),
        (gone(BIG, 1, 2), -2),
        (goes([4]), -1),
        (goes([2, 0, 0]), -1),
        (goes([4, 1, 2, 5, 1, 20]), -1),
        (goes([4, 1, 2] * 7), -1),
        (goes([BIG] * 24), -1),
        (lacks([4, 1]), -1),
        (lacks([6, 0, 0]), -1),
        (lacks([4, 1, 2, 5, 200, 0]), -1),
        (lacks([4, 1, 2] * 7), -1),
        (lacks([BIG] * 24), -1),
    )
    # Calls that only ask, whatever they answer.
    ASKING = (
        composed(), middle(), end(), direct(), goes([]), lacks([]), goes([4, 1, 2]), lacks([4, 1, 2]),
        goes([4, 1, 0, 4, 1, 1, 4, 1, 2, 4, 1, 3, 4, 1, 4]), lacks([4, 1, 0, 4, 1, 1, 4, 1, 2, 4, 1, 3, 4, 1, 4]),
        goes([4, 100, 199] * 6), lacks([5, 199, 100] * 6),
    )
    WRONG_WITH_A_FACT = ((fact(0, 1, 2), -4),)
    WRONG_WHEN_FULL = ((one([1, 0, 1], [2, 0, 1]), -7), (two([2, 0, 1], [5, 0, 1]), -7), (fact(1, 1, 2), -7))
    PROBES = (
        [composed(), middle(), end(), direct(), goes([]), lacks([]), goes([4, 1, 2]), lacks([4, 1, 2])],
        [fact(0, 1, 2), fact(1, 1, 2), fact(0, 20, 1), fact(0, 1, 9)],
        [gone(0, 1, 2), gone(1, 1, 2), gone(0, 1, 0), gone(0, 20, 1)],
        [one([1, 0, 1], [3, 0, 1]), one([1, 0, 1], [2, 1, 0]), one([0, 0, 0], [2, 0, 0]), composed()],
        [two([2, 0, 1], [5, 0, 1]), two([3, 0, 1], [4, 1, 0]), two([2, 0, 0], [4, 0, 0]), composed()],
        [fact(0, 7, 7), middle(), end(), direct(), gone(0, 1, 2), goes([4, 7, 7]), lacks([4, 7, 7])],
        [two([2, 0, 1], [5, 0, 3]), middle(), end(), direct(), one([0, 0, 1], [2, 1, 0]), lacks([4, 1, 2])],
        [one([1, 0, 1], [2, 1, 0]), two([2, 0, 1], [5, 0, 1]), composed(), begins(), composed()],
    )

    def leaves(self, state, wrong, error):
        for probe in self.PROBES:
            given = ask(*state, wrong, *probe)
            self.assertEqual(given[len(state)], [error], wrong)
            self.assertEqual(given[:len(state)] + given[len(state) + 1:], ask(*state, *probe), (wrong, probe))

    def test_wrong_in_every_state(self):
        for state in self.STATES:
            for wrong, error in self.WRONG:
                self.leaves(state, wrong, error)

    def test_fact_that_exists(self):
        for state in self.STATES[1:]:
            for wrong, error in self.WRONG_WITH_A_FACT:
                self.leaves(state, wrong, error)

    def test_full(self):
        for wrong, error in self.WRONG_WHEN_FULL:
            self.leaves(self.STATES[2], wrong, error)

    def test_all_wrong_calls_one_behind_another(self):
        for state in self.STATES:
            wrong = [call for call, _ in self.WRONG]
            for probe in self.PROBES:
                given = ask(*state, *wrong, *probe)
                self.assertEqual(given[len(state) + len(wrong):], ask(*state, *probe)[len(state):])

    def test_calls_that_ask_change_nothing(self):
        for state in self.STATES:
            for asking in self.ASKING:
                for probe in self.PROBES:
                    given = ask(*state, asking, *probe)
                    self.assertGreaterEqual(min(given[len(state)]), 0)
                    self.assertEqual(given[:len(state)] + given[len(state) + 1:], ask(*state, *probe), (asking, probe))

    def test_calls_that_ask_answer_the_same_again(self):
        for state in self.STATES:
            for asking in self.ASKING:
                given = ask(*state, asking, *self.ASKING[:6], asking)
                self.assertEqual(given[len(state)], given[-1], asking)


if __name__ == "__main__":
    unittest.main()

"""Points 1 to 4 of the document's requirements, over many rules, source facts and given facts."""

import unittest
from collections import Counter
from itertools import chain, combinations, product

from tests.helper import (
    FIRST_RULES, SECOND_RULES, ask, atoms, composed, direct, end, flat, goes, goes_by_choice, in_atoms, lacking_match,
    lacks, lacks_by_choice, listed_facts, listed_rules, many_states, maps_into, set_up,
)

# Given facts that do not follow from the state.
FIXED = (
    [],
    [(4, 0, 0), (4, 3, 3)],
    [(4, 1, 2), (4, 2, 1), (4, 1, 1), (4, 2, 2), (5, 1, 100), (5, 2, 101)],
    [(4, 1, 101), (5, 101, 101), (4, 2, 101), (5, 101, 100)],
)


def given_facts(end_facts):
    """Lists of at most six facts: those of the end with unknown values replaced in some ways, or with one left out."""
    found = list(FIXED)
    replaced = []
    for value in (None, 1, 7, 150):
        changed = [(t, *[value if v >= 100 and value else v for v in values]) for t, *values in end_facts]
        replaced.append(list(dict.fromkeys(changed)))
    for facts in replaced:
        found += [facts, facts[::-1], facts[:1] + facts, facts + [(5, 0, 199)]]
        found += [facts[:k] + facts[k + 1:] for k in range(0, len(facts), 2)]
    allowed = [facts for facts in found if len(facts) <= 6 and all(v < 200 for f in facts for v in f)]
    return [list(facts) for facts in dict.fromkeys(map(tuple, allowed))]


def asked(state, given):
    """What goes and lacks answer for each of the lists of facts, six lists of facts a request."""
    found = []
    for start in range(0, len(given), 6):
        some = given[start:start + 6]
        calls = flat([goes(flat(facts)), lacks(flat(facts))] for facts in some)
        answered = ask(*set_up(*state), *calls)[-len(calls):]
        found += zip(some, answered[0::2], answered[1::2])
    return found


def facts_of(state):
    """The facts of end and those of direct."""
    return [listed_facts(numbers) for numbers in ask(*set_up(*state), end(), direct())[-2:]]


def all_subsets(members):
    return chain.from_iterable(combinations(members, count) for count in range(len(members) + 1))


class Points1And3(unittest.TestCase):
    def test_goes_and_lacks(self):
        seen = Counter()
        for state in many_states(41):
            for given, goes_answer, lacks_answer in asked(state, given_facts(facts_of(state)[0])):
                place = (state, given)
                self.assertEqual(goes_answer, goes_by_choice(*state, given), place)
                self.assertEqual(lacks_answer, lacks_by_choice(*state, given), place)
                self.assertEqual(goes_answer == [1], lacks_answer == [0], place)
                seen[goes_answer[0], any(value >= 100 for one_fact in given for value in one_fact)] += 1
        # Each answer, with and without unknown values among the given facts.
        self.assertEqual(len(seen), 4)
        self.assertGreater(min(seen.values()), 100)

    def test_composed_rules_hold_just_where_goes_is_1(self):
        for state in many_states(173):
            listed = listed_rules(ask(*set_up(*state), composed())[-1])
            for given, goes_answer, _ in asked(state, given_facts(facts_of(state)[0])):
                together = set(state[2]) | set(given)
                hold = all(lacking_match(rule, together) is None for rule in listed)
                self.assertEqual(goes_answer, [int(hold)], (state, given))

    def test_some_facts_of_the_middle(self):
        # As the document words it: there is a set of middle facts with which all rules hold. Sets with more values
        # than these need not be tried, since rules that hold in a set hold in the middle facts, too.
        members = [(table, a, b) for table in (2, 3) for a in (1, 2) for b in (1, 2)]
        middle_sets = [set(chosen) for chosen in all_subsets(members)]
        lists = [[], [(4, 1, 2)], [(4, 1, 2), (4, 1, 1)], [(4, 1, 1), (4, 2, 2)], [(4, 1, 2), (5, 2, 100), (5, 1, 100)]]
        facts = [(0, 1, 2), (1, 2, 2)]
        for first_rule, second_rule in product(FIRST_RULES, SECOND_RULES):
            first, second = in_atoms([first_rule, second_rule])
            fitting = [chosen for chosen in middle_sets if lacking_match(first, chosen | set(facts)) is None]
            for given, goes_answer, _ in asked(([first_rule], [second_rule], facts), lists):
                found = any(lacking_match(second, chosen | set(given)) is None for chosen in fitting)
                self.assertEqual(goes_answer, [int(found)], (first_rule, second_rule, given))


class Points2And4(unittest.TestCase):
    def test_end_and_direct_map_into_each_other(self):
        larger = 0
        for state in many_states(29):
            in_two_steps, directly = facts_of(state)
            self.assertTrue(maps_into(in_two_steps, directly), state)
            self.assertTrue(maps_into(directly, in_two_steps), state)
            larger += in_two_steps != directly
        self.assertGreater(larger, 10)

    def test_facts_of_the_end_correspond(self):
        seen = 0
        for state in many_states(11):
            for facts in facts_of(state):
                if 0 < len(facts) <= 6:
                    self.assertEqual(asked(state, [facts])[0][1:], ([1], [0]), state)
                    seen += 1
        self.assertGreater(seen, 1000)

    def test_facts_of_the_end_map_into_facts_that_correspond(self):
        seen = Counter()
        for state in many_states(41):
            in_two_steps, directly = facts_of(state)
            for given, goes_answer, _ in asked(state, given_facts(in_two_steps)):
                if goes_answer == [1]:
                    self.assertTrue(maps_into(in_two_steps, given), (state, given))
                    self.assertTrue(maps_into(directly, given), (state, given))
                    seen[len(in_two_steps) > 0] += 1
        self.assertGreater(seen[True], 1000)


class MapsInto(unittest.TestCase):
    """The tests above are worth what maps_into of the helper is worth."""

    def test_known_values_stay(self):
        self.assertTrue(maps_into([], []))
        self.assertTrue(maps_into([], atoms([4, 1, 2])))
        self.assertTrue(maps_into([(4, 1, 2)], [(4, 1, 2), (5, 1, 2)]))
        for others in ([], [(5, 1, 2)], [(4, 2, 1)], [(4, 1, 100)]):
            self.assertFalse(maps_into([(4, 1, 2)], others))

    def test_unknown_values_get_one_value_each(self):
        self.assertTrue(maps_into([(4, 1, 100), (4, 101, 2)], [(4, 1, 2)]))
        self.assertTrue(maps_into([(4, 100, 100)], [(4, 7, 7)]))
        self.assertFalse(maps_into([(4, 100, 100)], [(4, 7, 8)]))
        self.assertTrue(maps_into([(4, 1, 100), (5, 100, 2)], [(4, 1, 3), (4, 1, 150), (5, 150, 2)]))
        self.assertFalse(maps_into([(4, 1, 100), (5, 100, 2)], [(4, 1, 3), (5, 150, 2)]))
        self.assertFalse(maps_into([(4, 1, 100), (4, 101, 2), (5, 100, 101)], [(4, 1, 3), (4, 4, 2), (5, 3, 5)]))


if __name__ == "__main__":
    unittest.main()

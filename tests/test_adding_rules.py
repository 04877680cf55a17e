"""The calls one and two."""

import unittest

from tests.helper import BIG, ask, begins, composed, last, listing, one, two

FIRST = ([0, 0, 1], [2, 0, 1])
SECOND = ([2, 0, 1], [4, 0, 1])


class Step:
    """What holds for one and for two, each with the tables of its own step."""

    def test_index_of_each_rule(self):
        self.assertEqual(ask(self.add(*self.rule), self.add(*self.rule)), [[0], [1]])

    def test_third_rule(self):
        add = self.add(*self.rule)
        self.assertEqual(ask(add, add, add, add), [[0], [1], [-7], [-7]])

    def test_number_of_atoms(self):
        body, head = self.rule
        for body_atoms in range(9):
            for head_atoms in range(9):
                allowed = body_atoms in (1, 2) and head_atoms in (1, 2)
                with self.subTest(body=body_atoms, head=head_atoms):
                    self.assertEqual(last(self.add(body * body_atoms, head * head_atoms)), [0 if allowed else -1])

    def test_number_of_numbers_that_is_no_multiple_of_three(self):
        body, head = self.rule
        for length in range(25):
            if length % 3 != 0:
                with self.subTest(length=length):
                    self.assertEqual(last(self.add((body * 8)[:length], head)), [-1])
                    self.assertEqual(last(self.add(body, (head * 8)[:length])), [-1])

    def test_lengths_that_together_are_a_multiple_of_three(self):
        body, head = self.rule
        self.assertEqual(last(self.add(body + [head[0]], head + [0, 1])), [-1])
        self.assertEqual(last(self.add(body + [0, 1], head + [head[0]])), [-1])

    def test_tables_of_the_body(self):
        body, head = self.rule
        for table in (0, 1, 2, 3, 4, 5, 6, BIG - 1, BIG):
            answer = [0 if table in self.body_tables else -1]
            with self.subTest(table=table):
                self.assertEqual(last(self.add([table, 0, 1], head)), answer)
                self.assertEqual(last(self.add([table, 0, 1] + body, head)), answer)
                self.assertEqual(last(self.add(body + [table, 0, 1], head)), answer)

    def test_tables_of_the_head(self):
        body, head = self.rule
        for table in (0, 1, 2, 3, 4, 5, 6, BIG - 1, BIG):
            answer = [0 if table in self.head_tables else -1]
            with self.subTest(table=table):
                self.assertEqual(last(self.add(body, [table, 0, 1])), answer)
                self.assertEqual(last(self.add(body, [table, 0, 1] + head)), answer)
                self.assertEqual(last(self.add(body, head + [table, 0, 1])), answer)

    def test_variables(self):
        for position in (1, 2, 4, 5):
            for variable in (0, 1, 4, 5, 6, 100, BIG):
                with self.subTest(position=position, variable=variable):
                    answer = [0 if variable <= 4 else -1]
                    body = [self.body_tables[0], 0, 1] * 2
                    body[position] = variable
                    head = [self.head_tables[0], body[4], body[4]]
                    self.assertEqual(last(self.add(body, head)), answer)
                    full = [self.body_tables[0], variable, 0, self.body_tables[1], 1, variable]
                    head = [self.head_tables[1], 0, 1] * 2
                    head[position] = variable
                    self.assertEqual(last(self.add(full, head)), answer)

    def test_variable_too_large_in_the_head_alone(self):
        body = [self.body_tables[0], 0, 1]
        for variable in (5, BIG):
            for head in ([self.head_tables[0], 0, variable], [self.head_tables[0], variable, 1]):
                self.assertEqual(last(self.add(body, head)), [-1])
                self.assertEqual(last(self.add(body, [self.head_tables[1], 0, 1] + head)), [-1])

    def test_no_rule_goes_ahead_of_full(self):
        add = self.add(*self.rule)
        for wrong in (self.add([], []), self.add(self.rule[0], []), self.add([5, 0, 1], self.rule[1])):
            self.assertEqual(ask(add, add, wrong), [[0], [1], [-1]])

    def test_refused_rule_takes_no_index(self):
        self.assertEqual(ask(self.add([], []), self.add(*self.rule)), [[-1], [0]])

    def test_begins_makes_room(self):
        add = self.add(*self.rule)
        self.assertEqual(ask(add, add, begins(), add, add, add), [[0], [1], [0], [0], [1], [-7]])


class One(Step, unittest.TestCase):
    rule = FIRST
    body_tables = (0, 1)
    head_tables = (2, 3)

    def add(self, body, head):
        return one(body, head)

    def test_body_of_a_second_rule(self):
        self.assertEqual(last(one([2, 0, 1], [4, 0, 1])), [-1])

    def test_existential_variable(self):
        for head in ([2, 0, 2], [2, 2, 0], [2, 2, 2], [2, 0, 1, 3, 0, 4], [3, 3, 1, 2, 0, 1], [2, 2, 3, 2, 3, 2]):
            with self.subTest(head=head):
                self.assertEqual(last(one([0, 0, 1], head)), [-5])

    def test_variables_of_either_atom_of_the_body_are_not_existential(self):
        for head in ([2, 0, 3], [2, 2, 1], [3, 0, 1, 2, 2, 3], [2, 3, 3]):
            with self.subTest(head=head):
                self.assertEqual(last(one([0, 0, 1, 1, 2, 3], head)), [0])

    def test_no_rule_goes_ahead_of_an_existential_variable(self):
        for body, head in (([0, 0, 5], [2, 0, 3]), ([0, 0, 1], [4, 0, 3]), ([0, 0, 1], [2, 3]), ([], [2, 0, 1])):
            with self.subTest(body=body, head=head):
                self.assertEqual(last(one(body, head)), [-1])

    def test_existential_variable_goes_ahead_of_full(self):
        add = one(*FIRST)
        self.assertEqual(ask(add, add, one([0, 0, 1], [2, 0, 2])), [[0], [1], [-5]])

    def test_all_errors_at_once(self):
        add = one(*FIRST)
        self.assertEqual(ask(add, add, one([0, 0, 1], [2, 0, 5])), [[0], [1], [-1]])

    def test_full_second_rules_leave_room(self):
        add = two(*SECOND)
        self.assertEqual(ask(add, add, one(*FIRST), one(*FIRST)), [[0], [1], [0], [1]])


class Two(Step, unittest.TestCase):
    rule = SECOND
    body_tables = (2, 3)
    head_tables = (4, 5)

    def add(self, body, head):
        return two(body, head)

    def test_tables_of_a_first_rule(self):
        self.assertEqual(last(two([0, 0, 1], [2, 0, 1])), [-1])

    def test_existential_variables_are_allowed(self):
        for head in ([4, 0, 2], [4, 2, 0], [5, 3, 4], [4, 0, 1, 5, 4, 4]):
            with self.subTest(head=head):
                self.assertEqual(last(two([2, 0, 1], head)), [0])

    def test_full_first_rules_leave_room(self):
        add = one(*FIRST)
        self.assertEqual(ask(add, add, two(*SECOND), two(*SECOND)), [[0], [1], [0], [1]])


class Stored(unittest.TestCase):
    def test_refused_third_rules_do_not_replace_others(self):
        calls = [one(*FIRST), one(*FIRST), one([1, 0, 1], [2, 0, 1])]
        calls += [two(*SECOND), two(*SECOND), two([2, 0, 1], [5, 0, 1])]
        self.assertEqual(last(*calls, composed()), listing(([0, 0, 1], [4, 0, 1])))


if __name__ == "__main__":
    unittest.main()

"""The calls fact and gone."""

import unittest

from tests.helper import BIG, ask, begins, fact, gone, last

FIVE = [fact(0, 0, 0), fact(0, 0, 1), fact(0, 1, 0), fact(1, 0, 0), fact(1, 19, 19)]


class Fact(unittest.TestCase):
    def test_number_of_facts(self):
        self.assertEqual(ask(*FIVE), [[1], [2], [3], [4], [5]])

    def test_tables(self):
        for table in (0, 1, 2, 3, 4, 5, 6, BIG - 1, BIG):
            with self.subTest(table=table):
                self.assertEqual(last(fact(table, 1, 2)), [1 if table in (0, 1) else -1])

    def test_values(self):
        for value in (0, 1, 19, 20, 21, 99, 100, 199, 200, BIG):
            answer = [1 if value < 20 else -1]
            with self.subTest(value=value):
                self.assertEqual(last(fact(0, value, 3)), answer)
                self.assertEqual(last(fact(1, 3, value)), answer)
                self.assertEqual(last(fact(1, value, value)), answer)

    def test_fact_that_exists(self):
        self.assertEqual(ask(fact(0, 1, 2), fact(0, 1, 2), fact(0, 1, 3)), [[1], [-4], [2]])

    def test_facts_that_differ_in_one_number(self):
        self.assertEqual(ask(fact(0, 1, 2), fact(1, 1, 2), fact(0, 2, 1), fact(0, 1, 1)), [[1], [2], [3], [4]])

    def test_sixth_fact(self):
        self.assertEqual(ask(*FIVE, fact(0, 5, 5), gone(0, 5, 5))[5:], [[-7], [-2]])

    def test_invalid_goes_ahead_of_full(self):
        for wrong in (fact(2, 0, 0), fact(0, 20, 0), fact(0, 0, BIG)):
            self.assertEqual(last(*FIVE, wrong), [-1])

    def test_exists_goes_ahead_of_full(self):
        self.assertEqual(last(*FIVE, fact(0, 1, 0)), [-4])

    def test_invalid_is_never_stored(self):
        self.assertEqual(ask(fact(0, 20, 0), fact(0, 20, 0), gone(0, 20, 0)), [[-1], [-1], [-2]])


class Gone(unittest.TestCase):
    def test_number_of_facts(self):
        calls = [gone(1, 0, 0), gone(0, 0, 0), gone(1, 19, 19), gone(0, 1, 0), gone(0, 0, 1), gone(0, 0, 1)]
        self.assertEqual(ask(*FIVE, *calls)[5:], [[4], [3], [2], [1], [0], [-2]])

    def test_no_facts_at_all(self):
        self.assertEqual(ask(gone(0, 0, 0)), [[-2]])

    def test_fact_that_is_not_there(self):
        for table, a, b in ((1, 1, 2), (0, 2, 1), (0, 1, 1), (0, 1, 3), (0, 0, 2), (0, 1, 0)):
            with self.subTest(fact=(table, a, b)):
                self.assertEqual(last(fact(0, 1, 2), gone(table, a, b)), [-2])

    def test_numbers_that_no_fact_has(self):
        for table, a, b in ((2, 1, 2), (5, 1, 2), (BIG, 1, 2), (0, 20, 2), (0, 1, 20), (0, BIG, BIG), (BIG, BIG, BIG)):
            with self.subTest(fact=(table, a, b)):
                self.assertEqual(last(fact(0, 1, 2), gone(table, a, b)), [-2])

    def test_removes_the_one_fact_alone(self):
        calls = [gone(0, 0, 1), fact(0, 0, 0), fact(0, 1, 0), fact(1, 0, 0), fact(1, 19, 19), gone(0, 0, 1)]
        self.assertEqual(ask(*FIVE, *calls)[5:], [[4], [-4], [-4], [-4], [-4], [-2]])

    def test_makes_room(self):
        calls = [fact(0, 5, 5), gone(0, 0, 1), fact(0, 5, 5), fact(0, 0, 1), gone(0, 5, 5), fact(0, 0, 1)]
        self.assertEqual(ask(*FIVE, *calls)[5:], [[-7], [4], [5], [-7], [4], [5]])

    def test_begins_removes_facts(self):
        self.assertEqual(ask(*FIVE, begins(), gone(0, 0, 0), fact(0, 0, 0))[5:], [[0], [-2], [1]])


if __name__ == "__main__":
    unittest.main()

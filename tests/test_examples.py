"""The examples of the document that use begins, one, two, fact, gone and composed alone."""

import unittest

from middlerules.steps import answers

SETUP = [
    1, 3, 0, 0, 1, 6, 2, 0, 1, 2, 1, 0,
    2, 6, 2, 0, 1, 2, 1, 2, 3, 4, 0, 2,
    2, 3, 2, 0, 1, 3, 5, 0, 3,
    3, 0, 1, 2,
    3, 0, 2, 3,
]
SETUP_ANSWERS = [1, 0, 1, 0, 1, 1, 1, 1, 1, 2]
COMPOSED = [
    6,
    2, 0, 0, 1, 0, 1, 2, 1, 4, 0, 2,
    2, 0, 0, 1, 0, 2, 1, 1, 4, 0, 2,
    2, 0, 0, 1, 0, 0, 2, 1, 4, 1, 2,
    2, 0, 0, 1, 0, 2, 0, 1, 4, 1, 2,
    1, 0, 0, 1, 1, 5, 0, 2,
    1, 0, 0, 1, 1, 5, 1, 2,
]


class Examples(unittest.TestCase):
    def after_setup(self, calls):
        given = answers(SETUP + calls)
        self.assertEqual(given[:len(SETUP_ANSWERS)], SETUP_ANSWERS)
        return given[len(SETUP_ANSWERS):]

    def test_composed(self):
        self.assertEqual(self.after_setup([5]), [len(COMPOSED)] + COMPOSED)

    def test_one_with_an_existential_variable(self):
        self.assertEqual(self.after_setup([1, 3, 0, 0, 1, 3, 2, 0, 2]), [1, -5])

    def test_gone(self):
        self.assertEqual(self.after_setup([4, 0, 2, 3]), [1, 1])

    def test_two_with_a_source_body(self):
        self.assertEqual(self.after_setup([2, 3, 0, 0, 1, 3, 4, 0, 1]), [1, -1])

    def test_one_behind_another(self):
        calls = [5, 1, 3, 0, 0, 1, 3, 2, 0, 2, 4, 0, 2, 3, 2, 3, 0, 0, 1, 3, 4, 0, 1, 5, 0]
        composed = [len(COMPOSED)] + COMPOSED
        self.assertEqual(self.after_setup(calls), composed + [1, -5, 1, 1, 1, -1] + composed + [1, 0])


if __name__ == "__main__":
    unittest.main()

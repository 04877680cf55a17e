"""The examples of the document: all in one list of calls, number by number, and one by one."""

import unittest

from middlerules.steps import answers

SETUP = [
    1, 3, 0, 0, 1, 6, 2, 0, 1, 2, 1, 0,
    2, 6, 2, 0, 1, 2, 1, 2, 3, 4, 0, 2,
    2, 3, 2, 0, 1, 3, 5, 0, 3,
    3, 0, 1, 2,
    3, 0, 2, 3,
]
SETUP_ANSWERS = [1, 0, 1, 0, 1, 1, 1, 1, 1, 2]
COMPOSED = [
    6,
    2, 0, 0, 1, 0, 1, 2, 1, 4, 0, 2,
    2, 0, 0, 1, 0, 2, 1, 1, 4, 0, 2,
    2, 0, 0, 1, 0, 0, 2, 1, 4, 1, 2,
    2, 0, 0, 1, 0, 2, 0, 1, 4, 1, 2,
    1, 0, 0, 1, 1, 5, 0, 2,
    1, 0, 0, 1, 1, 5, 1, 2,
]
MIDDLE = [4, 2, 1, 2, 2, 2, 1, 2, 2, 3, 2, 3, 2]
END = [9, 4, 1, 1, 4, 1, 3, 4, 2, 2, 4, 3, 1, 4, 3, 3, 5, 1, 100, 5, 2, 101, 5, 2, 102, 5, 3, 103]
END_AFTER_GONE = [4, 4, 1, 1, 4, 2, 2, 5, 1, 100, 5, 2, 101]
# Each row of the table: the call and what it answers.
ROWS = [
    ([5], COMPOSED),
    ([6], MIDDLE),
    ([7], END),
    ([8], END),
    ([9, 18, 4, 1, 3, 4, 1, 1, 4, 2, 2, 4, 3, 3, 4, 3, 1, 5, 1, 0], [0]),
    ([10, 6, 4, 1, 1, 4, 2, 2], [1, 0, 0, 1, 1, 2, 2, 3]),
    ([10, 15, 4, 1, 1, 4, 2, 2, 4, 1, 3, 4, 3, 1, 4, 3, 3], [1, 4, 0, 1, 1, 2]),
    ([1, 3, 0, 0, 1, 3, 2, 0, 2], [-5]),
    ([4, 0, 2, 3], [1]),
    ([7], END_AFTER_GONE),
    ([9, 12, 4, 1, 1, 4, 2, 2, 5, 1, 7, 5, 2, 7], [1]),
    ([2, 3, 0, 0, 1, 3, 4, 0, 1], [-1]),
    ([9, 3, 2, 0, 0], [-1]),
]


class Examples(unittest.TestCase):
    def after_setup(self, rows):
        calls = [number for call, _ in rows for number in call]
        expected = [number for _, answer in rows for number in [len(answer), *answer]]
        self.assertEqual(answers(SETUP + calls), SETUP_ANSWERS + expected)

    def test_all_in_one_list(self):
        self.after_setup(ROWS)

    def test_each_one_as_the_last(self):
        for count in range(len(ROWS) + 1):
            with self.subTest(count=count):
                self.after_setup(ROWS[:count])

    def test_each_one_ahead_of_gone_by_itself(self):
        for row in ROWS[:8]:
            with self.subTest(call=row[0]):
                self.after_setup([row])

    def test_all_in_one_list_after_begins(self):
        calls = [number for call, _ in ROWS for number in call]
        once = answers(SETUP + calls)
        self.assertEqual(answers(SETUP + calls + [0] + SETUP + calls), once + [1, 0] + once)


if __name__ == "__main__":
    unittest.main()

"""The worked example, number by number."""

import unittest

from buildanswers.plans import answers
from tests.helper import BEST, IDLE, PLAIN, SHOWN, WORKED_TEXT, check, from_grouping, help_with, load, wish


class Worked(unittest.TestCase):
    def test_answers_with_their_counts(self):
        calls = load(WORKED_TEXT) + wish(1, 2, 4) + PLAIN + BEST
        calls += check(7, -1, 1, 7, 2, 7, 4, 7, 7, -2) + check(1, -1, 2, 1) + IDLE + from_grouping(1) + help_with(3)
        self.assertEqual(
            answers(calls),
            [4, 1, 3, 12, 2]
            + [3, 1, 3, 6]
            + [8, 42, 3, 1, -1, 2, -1, 4, -1]
            + [15, 38, 11, 1, 7, 5, 7, -1, 1, 7, 2, 7, 4, 7, 7, -2]
            + [5, 1, 5, 38, 11, 6]
            + [5, 0, 1, 14, 2, 2]
            + [3, 1, 4, 8]
            + [8, 14, 3, 3, 6, 5, 6, 7, 7]
            + [15, 42, 8, 1, 3, 5, 3, -1, 1, 3, 2, 3, 3, -2, 4, -1],
        )

    def test_shown(self):
        form = WORKED_TEXT.replace(" ; ", " ;\n") + "\n"
        self.assertEqual(len(form), 261)
        self.assertEqual(
            answers(load(WORKED_TEXT) + SHOWN),
            [4, 1, 3, 12, 2] + [262, 261] + list(form.encode("ascii")),
        )


if __name__ == "__main__":
    unittest.main()

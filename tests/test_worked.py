"""The worked example, number by number."""

import unittest

from buildanswers.plans import answers
from tests.helper import BEST, PLAIN, SHOWN, WORKED_TEXT, load, wish


class Worked(unittest.TestCase):
    def test_answers_with_their_counts(self):
        calls = load(WORKED_TEXT) + wish(1, 2, 4) + PLAIN + BEST
        self.assertEqual(
            answers(calls),
            [4, 1, 3, 12, 2]
            + [3, 1, 3, 6]
            + [8, 42, 3, 1, -1, 2, -1, 4, -1]
            + [15, 38, 11, 1, 7, 5, 7, -1, 1, 7, 2, 7, 4, 7, 7, -2],
        )

    def test_shown(self):
        form = WORKED_TEXT.replace(" ; ", " ;\n") + "\n"
        self.assertEqual(len(form), 261)
        self.assertEqual(
            answers(load(WORKED_TEXT) + SHOWN),
            [4, 1, 3, 12, 2] + [262, 261] + list(form.encode("ascii")),
        )


if __name__ == "__main__":
    unittest.main()

"""help: as best, but with the helpers that are handed in."""

import itertools
import random
import unittest

from tests.helper import (
    BEST, IDLE, PLAIN, SHOWN, VERY_GREAT, WORKED_TEXT, Replay, Told, expected_steps, help_with, load, random_case,
    run, searched_cost, sizes_of, table_text, wish,
)

# The worked table has 12 rows; sizes by grouping, from 0 to 7: 1, 2, 2, 4, 2, 4, 4, 5.


class HelpCase(unittest.TestCase):
    def assert_answer(self, wished, helpers, due):
        self.assertEqual(run(load(WORKED_TEXT), wish(*wished), help_with(*helpers))[2], due, (wished, helpers))


class FixedAnswers(HelpCase):
    def test_the_worked_example(self):
        self.assert_answer([1, 2, 4], [3], [42, 8, 1, 3, 5, 3, -1, 1, 3, 2, 3, 3, -2, 4, -1])

    def test_no_helpers_and_nothing_wished(self):
        self.assert_answer([], [], [0, 0, 0, 0])
        self.assertEqual(run(load(WORKED_TEXT), help_with())[1], [0, 0, 0, 0])

    def test_no_helpers_though_one_would_pay(self):
        self.assert_answer([1, 2, 4], [], [42, 6, 0, 3, 1, -1, 2, -1, 4, -1])

    def test_nothing_wished(self):
        self.assert_answer([], [3], [16, 4, 1, 3, 2, 3, -1, 3, -2])
        self.assert_answer([], [3, 1], [16 + 6, 6, 2, 1, 3, 4, 3, -1, 1, 3, 1, -2, 3, -2])

    def test_one_told_twice_is_one(self):
        due = [42, 8, 1, 3, 5, 3, -1, 1, 3, 2, 3, 3, -2, 4, -1]
        self.assert_answer([1, 2, 4], [3, 3], due)
        self.assert_answer([1, 2, 4], [3] * 2000, due)

    def test_told_out_of_order(self):
        due = [17 + 9 + 6 + 6 + 7, 13, 2, 3, 7, 7]
        due += [7, -1, 3, 7, 1, 3, 2, 3, 3, -2, 4, 7, 7, -2]
        for helpers in ([3, 7], [7, 3], [7, 3, 7], [3, 7, 7, 3]):
            self.assert_answer([1, 2, 4], helpers, due)

    def test_parent_of_nothing(self):
        self.assert_answer([3], [4], [16 + 14, 6, 1, 4, 3, 3, -1, 4, -1, 4, -2])
        self.assert_answer([1], [6], [16 + 14, 4, 1, 6, 3, 6, -1, 6, -2, 1, -1])
        self.assert_answer([1], [0], [14 + 3, 3, 1, 0, 3, 1, -1, 0, 1, 0, -2])

    def test_parent_of_one_only(self):
        self.assert_answer([1], [7], [17 + 7, 7, 1, 7, 3, 7, -1, 1, 7, 7, -2])
        self.assert_answer([1], [3, 7], [17 + 9 + 6, 9, 2, 3, 7, 5, 7, -1, 3, 7, 7, -2, 1, 3, 3, -2])

    def test_more_than_three(self):
        # 3, 5 and 6 have four lines each, so 1 reads 3, 2 reads 3 and 4 reads 5.
        due = [17 + 3 * 9 + 3 * 6, 17, 4, 3, 5, 6, 7, 11]
        due += [7, -1, 3, 7, 5, 7, 6, 7, 6, -2, 7, -2, 1, 3, 2, 3, 3, -2, 4, 5, 5, -2]
        self.assert_answer([1, 2, 4], [3, 5, 6, 7], due)

    def test_all_that_are_not_wished(self):
        due = [17 + 3 * 9 + 3 * 6 + 3, 17, 7, 0, 1, 2, 3, 4, 5, 6, 15]
        due += [7, -1, 3, 7, 5, 7, 6, 7, 6, -2, 1, 3, 2, 3, 2, -2, 3, -2, 4, 5, 4, -2, 5, -2, 0, 1, 0, -2, 1, -2]
        self.assert_answer([7], [6, 5, 4, 3, 2, 1, 0], due)

    def test_all_are_wished(self):
        told = run(load(WORKED_TEXT), wish(*range(8)), help_with(), BEST)
        self.assertEqual(told[2], told[3])
        self.assertEqual(told[2][2], 0)

    def test_a_table_without_rows(self):
        told = run(load("columns a, b ;"), wish(1), help_with(3, 0))[2]
        self.assertEqual(told, [0, 0, 2, 0, 3, 5, 3, -1, 1, 3, 3, -2, 0, 1, 0, -2])


class Refused(HelpCase):
    def test_no_grouping(self):
        for number in (8, 9, 16, -1, -2, VERY_GREAT, -VERY_GREAT):
            for helpers in ([number], [3, number], [number, 3], [3, 5, number, 6]):
                self.assert_answer([1, 2], helpers, [-2])
                self.assert_answer([], helpers, [-2])

    def test_one_that_is_wished(self):
        for helpers in ([1], [2], [1, 1], [3, 1], [1, 3], [3, 5, 2, 6], [1, 2], [7] * 1999 + [2]):
            self.assert_answer([1, 2], helpers, [-3])

    def test_no_grouping_ahead_of_one_that_is_wished(self):
        for number in (8, -1, VERY_GREAT, -VERY_GREAT):
            for helpers in ([1, number], [number, 1], [1, 3, number], [number, 3, 1], [1, number, 2]):
                self.assert_answer([1, 2], helpers, [-2])

    def test_which_groupings_there_are(self):
        for width in (1, 2, 3, 4):
            text = table_text(width, [(0,) * width])
            count = 1 << width
            told = run(load(text), help_with(count - 1), help_with(count), wish(count - 1), help_with(count - 1))
            self.assertEqual(told[1:], [[2, 1, 1, count - 1, 2, count - 1, -1, count - 1, -2], [-2], [1, 1, 1], [-3]])

    def test_what_is_no_longer_wished_may_help(self):
        told = run(load(WORKED_TEXT), wish(3), help_with(3), wish(1), help_with(3))
        self.assertEqual(told[2], [-3])
        self.assertEqual(told[4], [16 + 6, 6, 1, 3, 3, 3, -1, 1, 3, 3, -2])


class Searched(unittest.TestCase):
    def check_told(self, width, rows, wished, helpers):
        sizes = sizes_of(width, rows)
        told = Told(run(load(table_text(width, rows)), wish(*wished), help_with(*helpers))[2])
        unlike = sorted(set(helpers))
        case = (rows, wished, helpers)
        self.assertEqual(told.cost, searched_cost(list(wished) + unlike, sizes, len(rows)), case)
        self.assertEqual(told.helpers, unlike, case)
        self.assertEqual(told.steps, expected_steps(wished, unlike, sizes), case)
        self.assertEqual(told.most, Replay(told.steps, rows).most, case)

    def test_all_choices_in_tables_of_two_columns(self):
        for rows in ([], [(0, 0)], [(0, 0)] * 7, [(0, 0), (0, 1), (1, 1)], [(0, 2), (1, 2), (2, 2), (0, 2)]):
            for parts in itertools.product(("wished", "helper", "neither"), repeat=4):
                wished = [grouping for grouping in range(4) if parts[grouping] == "wished"]
                helpers = [grouping for grouping in range(4) if parts[grouping] == "helper"]
                self.check_told(2, rows, wished, helpers)

    def test_random_tables(self):
        chance = random.Random(41)
        for turn in range(500):
            width = (1, 2, 3, 3, 4, 4, 4)[turn % 7]
            rows, wished = random_case(chance, width)
            others = [grouping for grouping in range(1 << width) if grouping not in wished]
            helpers = [chance.choice(others) for _ in range(chance.randint(0, len(others)))]
            self.check_told(width, rows, wished, helpers)

    def test_with_the_best_helpers_it_is_the_best(self):
        chance = random.Random(42)
        for turn in range(150):
            rows, wished = random_case(chance, 4)
            best = run(load(table_text(4, rows)), wish(*wished), BEST)[2]
            helpers = list(reversed(Told(best).helpers))
            self.assertEqual(run(load(table_text(4, rows)), wish(*wished), help_with(*helpers))[2], best)


class NothingChanges(unittest.TestCase):
    def test_the_object_is_left_as_it_was(self):
        for helpers in ([], [7], [3, 5, 6, 7], [1], [8], [1, 8]):
            told = run(
                load(WORKED_TEXT), wish(1, 2),
                SHOWN, PLAIN, BEST, IDLE, help_with(*helpers), SHOWN, PLAIN, BEST, IDLE, help_with(*helpers),
            )
            self.assertEqual(told[7:], told[2:7], helpers)


if __name__ == "__main__":
    unittest.main()

"""check: which steps of a plan can be done, what they cost, and what is no plan."""

import random
import unittest

from tests.helper import (
    BEST, DROP, IDLE, PLAIN, SHOWN, TABLE, VERY_GREAT, WORKED_TEXT, Replay, above, check, check_steps, load,
    random_case, random_plan, run, table_text, wish,
)

# The worked table has 12 rows; sizes by grouping, from 0 to 7: 1, 2, 2, 4, 2, 4, 4, 5.


class CheckCase(unittest.TestCase):
    def assert_answer(self, wished, plan, due):
        self.assertEqual(run(load(WORKED_TEXT), wish(*wished), check(*plan))[2], due, (wished, plan))


class RightPlans(CheckCase):
    def test_the_worked_plan(self):
        self.assert_answer([1, 2, 4], [7, -1, 1, 7, 2, 7, 4, 7, 7, -2], [1, 5, 38, 11, 6])

    def test_no_steps(self):
        self.assertEqual(run(load(WORKED_TEXT), check())[1], [1, 0, 0, 0, 0])
        self.assert_answer([], [], [1, 0, 0, 0, 0])
        self.assert_answer([1], [], [0, 0, 0, 0, 0])

    def test_just_what_is_wished_is_there_then(self):
        plan = [1, -1, 2, -1]
        self.assert_answer([1, 2], plan, [1, 2, 28, 4, 4])
        self.assert_answer([2, 1, 2], plan, [1, 2, 28, 4, 4])
        self.assert_answer([1, 2, 4], plan, [0, 2, 28, 4, 4])
        self.assert_answer([1], plan, [0, 2, 28, 4, 4])
        self.assert_answer([1, 4], plan, [0, 2, 28, 4, 4])
        self.assert_answer([], plan, [0, 2, 28, 4, 4])

    def test_in_any_order(self):
        self.assert_answer([1, 2], [2, -1, 1, -1], [1, 2, 28, 4, 4])
        self.assert_answer([3, 7, 1], [7, -1, 1, 7, 3, 7], [1, 3, 17 + 7 + 9, 11, 11])

    def test_cost_is_what_is_read_and_what_is_written(self):
        self.assert_answer([3], [3, -1], [1, 1, 12 + 4, 4, 4])
        self.assert_answer([3, 7], [7, -1, 3, 7], [1, 2, 12 + 5 + 5 + 4, 9, 9])
        self.assert_answer([3, 7], [7, -1, 3, -1], [1, 2, 12 + 5 + 12 + 4, 9, 9])
        self.assert_answer([0, 1, 3], [3, -1, 1, 3, 0, 1], [1, 3, 12 + 4 + 4 + 2 + 2 + 1, 7, 7])

    def test_dropping_costs_nothing(self):
        self.assert_answer([], [3, -1, 3, -2], [1, 2, 16, 4, 0])

    def test_built_dropped_and_built_again(self):
        self.assert_answer([1], [1, -1, 1, -2, 1, -1], [1, 3, 28, 2, 2])
        self.assert_answer([1, 3], [1, -1, 1, -2, 3, -1, 1, 3], [1, 4, 14 + 16 + 6, 6, 6])
        self.assert_answer([], [1, -1, 1, -2, 1, -1, 1, -2], [1, 4, 28, 2, 0])

    def test_what_was_built_stays_though_its_source_is_dropped(self):
        self.assert_answer([1], [7, -1, 3, 7, 7, -2, 1, 3, 3, -2], [1, 5, 17 + 9 + 6, 9, 2])

    def test_most_lines_at_one_time(self):
        self.assert_answer([1], [7, -1, 7, -2, 1, -1], [1, 3, 31, 5, 2])
        self.assert_answer([1], [1, -1, 7, -1, 7, -2], [1, 3, 31, 7, 2])
        self.assert_answer([], [1, -1, 2, -1, 1, -2, 2, -2], [1, 4, 28, 4, 0])

    def test_a_table_without_rows(self):
        told = run(load("columns a, b ;"), wish(1, 3), check(3, -1, 1, 3), check(1, -1), check())
        self.assertEqual(told[2:], [[1, 2, 0, 0, 0], [0, 1, 0, 0, 0], [0, 0, 0, 0, 0]])

    def test_the_longest_plan(self):
        self.assert_answer([], [1, -1, 1, -2] * 500, [1, 1000, 500 * 14, 2, 0])
        self.assert_answer([1], [1, -1, 1, -2] * 499 + [1, -1], [1, 999, 500 * 14, 2, 2])


class StepsThatCannotBeDone(CheckCase):
    def test_built_though_it_is_there(self):
        self.assert_answer([1], [1, -1, 1, -1], [0, 1, 14, 2, 2])
        self.assert_answer([1, 3], [3, -1, 1, -1, 1, 3], [0, 2, 30, 6, 6])

    def test_built_from_one_that_is_not_there(self):
        self.assert_answer([1], [1, 3], [0, 0, 0, 0, 0])
        self.assert_answer([1], [7, -1, 1, 3], [0, 1, 17, 5, 5])
        self.assert_answer([1], [3, -1, 3, -2, 1, 3], [0, 2, 16, 4, 0])

    def test_built_from_one_that_is_not_above(self):
        self.assert_answer([1, 2], [1, -1, 2, 1], [0, 1, 14, 2, 2])
        self.assert_answer([1, 3], [1, -1, 3, 1], [0, 1, 14, 2, 2])
        self.assert_answer([4, 3], [3, -1, 4, 3], [0, 1, 16, 4, 4])
        self.assert_answer([0, 1], [0, -1, 1, 0], [0, 1, 13, 1, 1])

    def test_built_from_itself(self):
        self.assert_answer([1], [1, 1], [0, 0, 0, 0, 0])
        self.assert_answer([1], [1, -1, 1, 1], [0, 1, 14, 2, 2])

    def test_dropped_though_it_is_not_there(self):
        self.assert_answer([], [1, -2], [0, 0, 0, 0, 0])
        self.assert_answer([], [1, -1, 1, -2, 1, -2], [0, 2, 14, 2, 0])
        self.assert_answer([1], [1, -1, 3, -2], [0, 1, 14, 2, 2])

    def test_nothing_behind_it_counts(self):
        self.assert_answer([1, 2], [1, -1, 1, -1, 2, -1], [0, 1, 14, 2, 2])
        self.assert_answer([1, 2], [1, -1, 4, -2, 2, -1], [0, 1, 14, 2, 2])
        self.assert_answer([1], [1, -1, 2, 3, 7, -1, 7, -2], [0, 1, 14, 2, 2])

    def test_not_right_though_what_is_wished_is_there(self):
        self.assert_answer([1, 2], [1, -1, 2, -1, 2, -1], [0, 2, 28, 4, 4])
        self.assert_answer([], [0, -2], [0, 0, 0, 0, 0])

    def test_each_grouping_from_each_other_one(self):
        rows = [(0, 0, 0, 0), (0, 1, 0, 1), (1, 2, 0, 1)]
        for source in range(16):
            plans = [check(source, TABLE, grouping, source) for grouping in range(16)]
            told = run(load(table_text(4, rows)), wish(), *plans)[2:]
            for grouping, answer in enumerate(told):
                self.assertEqual(answer[1], 2 if above(source, grouping) else 1, (source, grouping))

    def test_plans_as_they_are_carried_out_with_real_answers(self):
        chance = random.Random(11)
        counts = {0: 0, 1: 0}
        for turn in range(800):
            width = turn % 4 + 1
            rows, wished = random_case(chance, width)
            steps = random_plan(chance, width, 12)
            replay = Replay(steps, rows)
            if chance.random() < 0.5:
                wished = sorted(replay.there)
            told = run(load(table_text(width, rows)), wish(*wished), check_steps(steps))[2]
            self.assertEqual(told, replay.check_answer(wished), (rows, wished, steps))
            counts[told[0]] += 1
        self.assertGreater(min(counts.values()), 200)


class WhatIsNoPlan(CheckCase):
    def test_not_two_numbers_for_each_step(self):
        for plan in ([1], [-1], [9], [1, -1, 2], [1, 1, 1], [1, -1] * 999 + [1]):
            self.assert_answer([1], plan, [-4])

    def test_first_number_no_grouping(self):
        for number in (8, 9, 16, -1, -2, -3, VERY_GREAT, -VERY_GREAT):
            for second in (-1, -2, 3):
                self.assert_answer([1], [number, second], [-4])
                self.assert_answer([1], [1, -1, number, second], [-4])

    def test_second_number_neither_a_grouping_nor_the_table_nor_a_drop(self):
        for number in (8, 9, 16, -3, -4, VERY_GREAT, -VERY_GREAT):
            for first in (0, 1, 7):
                self.assert_answer([1], [first, number], [-4])
                self.assert_answer([1], [3, -1, first, number], [-4])

    def test_behind_a_step_that_cannot_be_done(self):
        for wrong in ([8, -1], [1, 8], [-1, -1], [1, -3], [VERY_GREAT, -1], [1, -VERY_GREAT], [1]):
            self.assert_answer([1], [1, -1, 1, -1] + wrong, [-4])
            self.assert_answer([1], [1, 1] + wrong, [-4])
            self.assert_answer([1], [1, -2] + wrong + [2, -1], [-4])

    def test_which_groupings_there_are(self):
        for width in (1, 2, 3, 4):
            count = 1 << width
            told = run(
                load(table_text(width, [(0,) * width])),
                check(count - 1, -1),
                check(count, -1),
                check(0, count - 1),
                check(0, count),
            )
            self.assertEqual(told[1:], [[0, 1, 2, 1, 1], [-4], [0, 0, 0, 0, 0], [-4]], width)


class NothingChanges(unittest.TestCase):
    def test_the_object_is_left_as_it_was(self):
        for plan in ([], [7, -1], [1, -1, 2, -1], [1, 1], [8, -1], [1]):
            told = run(
                load(WORKED_TEXT), wish(1, 2),
                SHOWN, PLAIN, BEST, IDLE, check(*plan), SHOWN, PLAIN, BEST, IDLE, check(*plan),
            )
            self.assertEqual(told[7:], told[2:7], plan)

    def test_each_plan_begins_with_nothing_there(self):
        told = run(load(WORKED_TEXT), wish(1), check(1, -1), check(1, -1), check(1, DROP), check(1, -1))
        self.assertEqual(told[2:], [[1, 1, 14, 2, 2], [1, 1, 14, 2, 2], [0, 0, 0, 0, 0], [1, 1, 14, 2, 2]])


if __name__ == "__main__":
    unittest.main()

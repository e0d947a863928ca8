"""The promises, point by point, over the calls together; points 2 to 4 are in test_best too."""

import random
import unittest

from tests.helper import (
    BEST, DROP, IDLE, TABLE, Replay, Told, above, answer_from, check_steps, help_with, load, plain_answer,
    product_case, random_case, random_plan, random_questions, run, table_text, wish,
)


def random_cases(seed, count):
    chance = random.Random(seed)
    for turn in range(count):
        width = (1, 2, 3, 4, 4, 4)[turn % 6]
        rows, wished = random_case(chance, width) if turn % 6 < 5 else product_case(chance)
        yield chance, width, rows, wished


class WhatIsBuilt(unittest.TestCase):
    """Point 1: whatever the plan, what's built is the plain answer."""

    def test_from_each_grouping_above(self):
        for _, width, rows, _ in random_cases(51, 60):
            for grouping in range(1 << width):
                for source in range(1 << width):
                    if above(source, grouping):
                        built = answer_from(plain_answer(rows, source), source, grouping)
                        self.assertEqual(built, plain_answer(rows, grouping))

    def test_all_that_a_plan_leaves_is_plain(self):
        for chance, width, rows, _ in random_cases(52, 400):
            steps = random_plan(chance, width, 14)
            replay = Replay(steps, rows)
            for grouping, answer in replay.there.items():
                self.assertEqual(answer, plain_answer(rows, grouping), (rows, steps))
            told = run(load(table_text(width, rows)), wish(*replay.there), check_steps(steps))
            self.assertEqual(told[2], replay.check_answer(replay.there), (rows, steps))
            # Its lines are those of just these groupings, as wish tells them.
            self.assertEqual(told[2][4], told[1][2], (rows, steps))


class PlansMade(unittest.TestCase):
    """Point 2: the plan made runs, and ends with just what's wished."""

    def assert_runs(self, width, rows, wished, call):
        text = table_text(width, rows)
        wish_told, plan_told = run(load(text), wish(*wished), call)[1:]
        told = Told(plan_told)
        checked = run(load(text), wish(*wished), check_steps(told.steps))[2]
        self.assertEqual(checked, [1, len(told.steps), told.cost, told.most, wish_told[2]], (rows, wished, call))
        dropped = [grouping for grouping, source in told.steps if source == DROP]
        self.assertEqual(sorted(dropped), told.helpers, (rows, wished, call))
        replay = Replay(told.steps, rows)
        for grouping in wished:
            self.assertEqual(replay.there[grouping], plain_answer(rows, grouping), (rows, wished, call))
        self.assertEqual(sorted(replay.there), wished)

    def test_the_plan_of_best(self):
        for _, width, rows, wished in random_cases(53, 250):
            self.assert_runs(width, rows, wished, BEST)

    def test_the_plan_of_help(self):
        for chance, width, rows, wished in random_cases(54, 400):
            others = [grouping for grouping in range(1 << width) if grouping not in wished]
            helpers = chance.sample(others, chance.randint(0, len(others)))
            self.assert_runs(width, rows, wished, help_with(*helpers))


def next_steps(there, width):
    """All steps that can be done."""
    steps = [(grouping, DROP) for grouping in there]
    for grouping in range(1 << width):
        if grouping not in there:
            steps += [(grouping, source) for source in [TABLE] + sorted(there) if source < 0 or above(source, grouping)]
    return steps


class NothingCostsLess(unittest.TestCase):
    """Point 3: no plan that ends with what's wished, with at most 3 helpers, costs less than the best."""

    def checked_plans(self, text, wished, plans):
        """What check answers to each plan, 18 of them at a time."""
        told = []
        for place in range(0, len(plans), 18):
            some = [check_steps(plan) for plan in plans[place:place + 18]]
            told += run(load(text), wish(*wished), *some)[2:]
        return told

    def check_all_plans(self, width, rows, wished, most_steps):
        text = table_text(width, rows)
        best = Told(run(load(text), wish(*wished), BEST)[2])
        costs = []
        plans = [[]]
        for _ in range(most_steps + 1):
            for plan, answer in zip(plans, self.checked_plans(text, wished, plans)):
                self.assertEqual(answer[1], len(plan))
                if answer[0] == 1:
                    costs.append(answer[2])
            plans = [plan + [step] for plan in plans for step in next_steps(Replay(plan, rows).there, width)]
        self.assertEqual(min(costs), best.cost, (rows, wished))

    def test_all_short_plans_of_small_tables(self):
        self.check_all_plans(1, [(1,), (2,), (1,)], [0, 1], 7)
        self.check_all_plans(1, [(1,)] * 3, [0], 7)
        self.check_all_plans(2, [(1, 2)] * 4, [1, 2], 4)
        self.check_all_plans(2, [(1, 2), (1, 3), (1, 3), (1, 3)], [0, 2], 4)
        self.check_all_plans(2, [(1, 2)] * 3, [0, 1, 2], 4)

    def test_random_plans(self):
        compared = 0
        for chance, width, rows, _ in random_cases(55, 500):
            steps = random_plan(chance, width, 14)
            wished = sorted(Replay(steps, rows).there)
            helpers = {grouping for grouping, _ in steps} - set(wished)
            best, checked = run(load(table_text(width, rows)), wish(*wished), BEST, check_steps(steps))[2:]
            if checked[0] == 1 and len(helpers) <= 3:
                compared += 1
                self.assertLessEqual(best[0], checked[2], (rows, steps))
        self.assertGreater(compared, 150)

    def test_no_choice_handed_to_help_costs_less(self):
        for chance, width, rows, wished in random_cases(56, 200):
            others = [grouping for grouping in range(1 << width) if grouping not in wished]
            calls = [help_with(*chance.sample(others, min(len(others), chance.randint(0, 3)))) for _ in range(12)]
            told = run(load(table_text(width, rows)), wish(*wished), BEST, *calls)[2:]
            self.assertEqual(min(answer[0] for answer in told), told[0][0], (rows, wished))


class HelpersOfTheBest(unittest.TestCase):
    """Point 4: each helper of the best is parent of two others, at least."""

    def test_random_tables(self):
        seen = 0
        for _, width, rows, wished in random_cases(57, 500):
            told = Told(run(load(table_text(width, rows)), wish(*wished), BEST)[2])
            sources = [source for _, source in told.steps]
            for helper in told.helpers:
                seen += 1
                self.assertGreaterEqual(sources.count(helper), 2, (rows, wished))
        self.assertGreater(seen, 50)


class WithoutIdleOnes(unittest.TestCase):
    """Point 5: without all that are idle each question reads what it did."""

    def what_is_read(self, width, rows, question, kept):
        """What a question reads is what isn't idle when it's the only one."""
        told = run(load(table_text(width, rows, [question])), wish(*kept), IDLE)[2]
        idle = told[1:-1]
        self.assertEqual(told[0], len(idle))
        return [grouping for grouping in kept if grouping not in idle], told[-1]

    def test_each_question_reads_what_it_did(self):
        dropped = 0
        for chance, width, rows, wished in random_cases(58, 300):
            questions = random_questions(chance, width)
            text = table_text(width, rows, questions)
            idle = run(load(text), wish(*wished), IDLE)[2][1:-1]
            dropped += len(idle)
            rest = [grouping for grouping in wished if grouping not in idle]
            for question in questions:
                before = self.what_is_read(width, rows, question, wished)
                self.assertEqual(self.what_is_read(width, rows, question, rest), before, (rows, questions, wished))
                self.assertLessEqual(len(before[0]), 1)
        self.assertGreater(dropped, 200)

    def test_none_is_idle_then_and_the_cost_stays(self):
        for chance, width, rows, wished in random_cases(59, 300):
            text = table_text(width, rows, random_questions(chance, width))
            before = run(load(text), wish(*wished), IDLE)[2]
            rest = [grouping for grouping in wished if grouping not in before[1:-1]]
            self.assertEqual(run(load(text), wish(*rest), IDLE)[2], [0, before[-1]], (text, wished))


if __name__ == "__main__":
    unittest.main()

"""best: the helpers, the plan with them, and points 2 to 4 of the promises.

What is expected comes from a search of its own, which tries every choice of helpers,
and on small tables from one that tries every plan, step by step.
"""

import heapq
import itertools
import random
import unittest

from buildanswers.helpers import helper_sets
from tests.helper import (
    BEST, Replay, Told, above, expected_steps, load, product_case, random_case, run, searched_helpers, sizes_of,
    table_text, wish,
)

CUBE = list(itertools.product((0, 1), repeat=4))


def best_answer(width, rows, wished):
    return run(load(table_text(width, rows)), wish(*wished), BEST)[2]


def cheapest_plan(wished, sizes, row_count):
    """The cost of the cheapest of all plans with at most three helpers that end with just what is wished."""
    goal = frozenset(wished)
    queue = [(0, 0, frozenset(), frozenset())]
    done = set()
    turn = 0
    while queue:
        cost, _, there, used = heapq.heappop(queue)
        if there == goal:
            return cost
        if (there, used) in done:
            continue
        done.add((there, used))
        for grouping in range(len(sizes)):
            turn += 1
            if grouping in there:
                heapq.heappush(queue, (cost, turn, there - {grouping}, used))
                continue
            now_used = used if grouping in goal else used | {grouping}
            if len(now_used) > 3:
                continue
            read = min([sizes[other] for other in there if above(other, grouping)], default=row_count)
            price = cost + min(read, row_count) + sizes[grouping]
            heapq.heappush(queue, (price, turn, there | {grouping}, now_used))
    return None


class BestCase(unittest.TestCase):
    def check(self, width, rows, wished):
        """All that the document says of one answer, but point 3 for every plan there is."""
        told = Told(best_answer(width, rows, wished))
        sizes = sizes_of(width, rows)
        cost, helpers = searched_helpers(wished, sizes, len(rows))
        self.assertEqual((told.cost, told.helpers), (cost, helpers), (rows, wished))
        self.assertEqual(told.steps, expected_steps(wished, helpers, sizes), (rows, wished))
        replay = Replay(told.steps, rows)
        self.assertEqual((replay.whole, replay.cost, replay.most), (True, told.cost, told.most), (rows, wished))
        self.assertEqual(sorted(replay.there), sorted(wished), (rows, wished))
        for helper in told.helpers:
            children = [grouping for grouping, source in told.steps if source == helper]
            self.assertGreaterEqual(len(children), 2, (rows, wished))
        return told


class FixedAnswers(unittest.TestCase):
    def test_nothing_wished(self):
        self.assertEqual(best_answer(2, [(0, 1)] * 5, []), [0, 0, 0, 0])
        self.assertEqual(run(load("columns a ; row 1 : 1 ;"), BEST)[1], [0, 0, 0, 0])

    def test_table_without_rows(self):
        self.assertEqual(best_answer(2, [], [1, 2]), [0, 0, 0, 2, 1, -1, 2, -1])

    def test_one_wished(self):
        self.assertEqual(best_answer(2, [(0, 0)] * 16, [1]), [17, 1, 0, 1, 1, -1])

    def test_a_wished_one_as_parent_is_not_dropped(self):
        self.assertEqual(best_answer(2, [(0, 0)] * 9, [1, 2, 3]), [14, 3, 0, 3, 3, -1, 1, 3, 2, 3])

    def test_no_helper_where_one_costs_the_same(self):
        # With 3 as a helper: 3 + 1 and twice 1 + 1, which is twice 3 + 1 as well.
        self.assertEqual(best_answer(2, [(0, 0)] * 3, [1, 2]), [8, 2, 0, 2, 1, -1, 2, -1])

    def test_one_helper(self):
        self.assertEqual(best_answer(2, [(0, 0)] * 4, [1, 2]), [9, 3, 1, 3, 4, 3, -1, 1, 3, 2, 3, 3, -2])

    def test_of_alike_helpers_the_least_number(self):
        # 7 would do as well as 3.
        self.assertEqual(
            best_answer(3, [(0, 0, 0)] * 4, [1, 2]),
            [9, 3, 1, 3, 4, 3, -1, 1, 3, 2, 3, 3, -2],
        )

    def test_a_helper_is_dropped_as_soon_as_nothing_reads_it(self):
        # 3 is wished and becomes the parent of what has fewer columns, so 7 goes behind 6.
        self.assertEqual(
            best_answer(3, [(0, 0, 0)] * 6, [0, 1, 2, 3, 6]),
            [17, 5, 1, 7, 7, 7, -1, 3, 7, 6, 7, 7, -2, 1, 3, 2, 3, 0, 1],
        )

    def test_two_helpers_of_which_the_number_is_least(self):
        # 3 and 12, 5 and 10, 6 and 9 cost the same: 2 * (16 + 4) + 4 * (4 + 2).
        # 2^6 + 2^9 is less than 2^5 + 2^10 and 2^3 + 2^12.
        self.assertEqual(
            best_answer(4, CUBE, [1, 2, 4, 8]),
            [64, 14, 2, 6, 9, 8]
            + [6, -1, 9, -1, 1, 9, 2, 6, 4, 6, 6, -2, 8, 9, 9, -2],
        )

    def test_fewer_helpers_ahead_of_the_least_number(self):
        # 13 and 14 cost the same as 15, and 2^13 + 2^14 is less than 2^15.
        rows = list(itertools.product((0, 1), (0, 1), (0, 1), (0,))) * 2
        self.assertEqual(
            best_answer(4, rows, [5, 6, 9, 10]),
            [(16 + 8) + 2 * (8 + 4) + 2 * (8 + 2), 20, 1, 15, 6]
            + [15, -1, 5, 15, 6, 15, 9, 15, 10, 15, 15, -2],
        )

    def test_a_helper_built_from_a_helper(self):
        rows = [(0, 0, 0, number) for number in (0, 1, 1, 2, 3, 0, 3, 1)]
        self.assertEqual(
            best_answer(4, rows, [2, 5, 11, 12, 13, 14]),
            [53, 19, 2, 7, 15, 10]
            + [15, -1, 7, 15, 11, 15, 13, 15, 14, 15, 15, -2, 5, 7, 12, 13, 2, 7, 7, -2],
        )

    def test_three_helpers(self):
        # Two columns with 4 values each, two with one value.
        rows = [(first, second, 0, 0) for first in range(4) for second in range(4)]
        self.assertEqual(
            best_answer(4, rows, [4, 5, 6, 8, 9, 10]),
            [81, 24, 3, 12, 13, 14, 12]
            + [13, -1, 14, -1, 5, 13, 6, 14, 9, 13, 10, 14, 14, -2]
            + [12, 13, 13, -2, 4, 12, 8, 12, 12, -2],
        )

    def test_all_choices_of_at_most_three_are_looked_at(self):
        choices = [tuple(choice) for choice in helper_sets(list(range(16)))]
        self.assertEqual(len(choices), 697)
        self.assertEqual(len(set(choices)), 697)
        for choice in choices:
            self.assertLessEqual(len(choice), 3)
            self.assertEqual(list(choice), sorted(set(choice)))

    def test_what_is_wished_stays_as_it_was(self):
        told = run(load(table_text(2, [(0, 0)] * 4)), wish(1, 2), BEST, BEST, wish(3), BEST)
        self.assertEqual(told[2], told[3])
        self.assertEqual(told[5], [5, 1, 0, 1, 3, -1])


class Searched(BestCase):
    def test_fixed_tables(self):
        self.assertEqual(len(self.check(4, CUBE, [1, 2, 4, 8]).helpers), 2)
        for wished in ([0], [0, 1, 2], [3, 5, 6], [3, 5, 9, 6, 10, 12], [7, 11, 13, 14], list(range(16))):
            self.check(4, CUBE, wished)
            self.check(4, [(1, 2, 3, 4)] * 16, wished)

    def test_random_tables_of_four_columns(self):
        chance = random.Random(1)
        for _ in range(200):
            rows, wished = random_case(chance, 4)
            self.check(4, rows, wished)

    def test_tables_where_more_helpers_pay(self):
        chance = random.Random(4)
        counts = []
        for _ in range(120):
            rows, wished = product_case(chance)
            counts.append(len(self.check(4, rows, wished).helpers))
        self.assertEqual(set(counts), {0, 1, 2})

    def test_three_helpers_whichever_columns_are_wide(self):
        for wide in itertools.combinations(range(4), 2):
            counts = [4 if column in wide else 1 for column in range(4)]
            rows = list(itertools.product(*[range(count) for count in counts]))
            narrow = [1 << column for column in range(4) if column not in wide]
            wished = narrow + [low | 1 << column for low in narrow for column in wide]
            self.assertEqual(len(self.check(4, rows, sorted(wished)).helpers), 3)

    def test_random_tables_of_fewer_columns(self):
        chance = random.Random(2)
        for width in (1, 2, 3, 3, 3):
            for _ in range(80):
                rows, wished = random_case(chance, width)
                self.check(width, rows, wished)


class EveryPlan(BestCase):
    def check_cost(self, width, rows, wished):
        told = self.check(width, rows, wished)
        least = cheapest_plan(wished, sizes_of(width, rows), len(rows))
        self.assertEqual(told.cost, least, (rows, wished))

    def test_all_tables_of_two_columns_with_up_to_four_rows(self):
        for count in range(5):
            for rows in itertools.combinations_with_replacement(itertools.product((0, 1), repeat=2), count):
                for size in range(5):
                    for wished in itertools.combinations(range(4), size):
                        self.check_cost(2, list(rows), list(wished))

    def test_random_tables_of_three_columns(self):
        chance = random.Random(3)
        for _ in range(60):
            rows, wished = random_case(chance, 3)
            self.check_cost(3, rows, wished[:4])


if __name__ == "__main__":
    unittest.main()

"""from: what it costs to build a grouping from the table, and from each one above it."""

import itertools
import random
import unittest

from tests.helper import (
    BEST, IDLE, PLAIN, SHOWN, VERY_GREAT, WORKED_TEXT, above, from_grouping, load, random_case, run, sizes_of,
    table_text, wish,
)


def expected(grouping, sizes, row_count):
    pairs = [(other, sizes[other] + sizes[grouping]) for other in range(len(sizes)) if above(other, grouping)]
    told = [row_count + sizes[grouping], len(pairs)]
    for pair in pairs:
        told.extend(pair)
    return told


class FixedAnswers(unittest.TestCase):
    def test_each_grouping_of_the_worked_table(self):
        due = [
            [13, 7, 1, 3, 2, 3, 3, 5, 4, 3, 5, 5, 6, 5, 7, 6],
            [14, 3, 3, 6, 5, 6, 7, 7],
            [14, 3, 3, 6, 6, 6, 7, 7],
            [16, 1, 7, 9],
            [14, 3, 5, 6, 6, 6, 7, 7],
            [16, 1, 7, 9],
            [16, 1, 7, 9],
            [17, 0],
        ]
        told = run(load(WORKED_TEXT), *[from_grouping(grouping) for grouping in range(8)])
        self.assertEqual(told[1:], due)

    def test_one_column(self):
        text = table_text(1, [(4,), (4,), (5,)])
        self.assertEqual(run(load(text), from_grouping(0), from_grouping(1))[1:], [[4, 1, 1, 3], [5, 0]])

    def test_a_table_without_rows(self):
        told = run(load("columns a, b ;"), *[from_grouping(grouping) for grouping in range(4)])
        self.assertEqual(told[1:], [[0, 3, 1, 0, 2, 0, 3, 0], [0, 1, 3, 0], [0, 1, 3, 0], [0, 0]])

    def test_what_is_wished_does_not_matter(self):
        told = run(load(WORKED_TEXT), from_grouping(1), wish(1), from_grouping(1), wish(3, 7), from_grouping(1))
        self.assertEqual(told[1], [14, 3, 3, 6, 5, 6, 7, 7])
        self.assertEqual([told[3], told[5]], [told[1], told[1]])

    def test_no_grouping(self):
        for width in (1, 2, 3, 4):
            text = table_text(width, [(0,) * width])
            for number in (1 << width, (1 << width) + 1, 16, 99, -1, -2, -16, VERY_GREAT, -VERY_GREAT):
                self.assertEqual(run(load(text), from_grouping(number))[1], [-2], (width, number))


class Searched(unittest.TestCase):
    def check_each(self, width, rows):
        sizes = sizes_of(width, rows)
        told = run(load(table_text(width, rows)), *[from_grouping(grouping) for grouping in range(1 << width)])
        for grouping, answer in enumerate(told[1:]):
            self.assertEqual(answer, expected(grouping, sizes, len(rows)), (rows, grouping))

    def test_each_grouping_of_tables_of_one_to_four_columns(self):
        for width in (1, 2, 3, 4):
            self.check_each(width, [])
            self.check_each(width, [(7,) * width] * 16)
            self.check_each(width, list(itertools.product((0, 1), repeat=width)))
            self.check_each(width, [tuple((place + column) % 10 for column in range(width)) for place in range(16)])

    def test_random_tables(self):
        chance = random.Random(31)
        for turn in range(160):
            width = turn % 4 + 1
            self.check_each(width, random_case(chance, width)[0])


class NothingChanges(unittest.TestCase):
    def test_the_object_is_left_as_it_was(self):
        for number in (0, 7, 8, -1):
            told = run(
                load(WORKED_TEXT), wish(1, 2),
                SHOWN, PLAIN, BEST, IDLE, from_grouping(number), SHOWN, PLAIN, BEST, IDLE, from_grouping(number),
            )
            self.assertEqual(told[7:], told[2:7], number)


if __name__ == "__main__":
    unittest.main()

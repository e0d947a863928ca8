"""idle: which of the wished ones no question reads, and what all questions cost."""

import random
import unittest

from tests.helper import (
    BEST, IDLE, PLAIN, SHOWN, TABLE, WORKED_TEXT, load, random_case, random_questions, run, sizes_of, source_read,
    table_text, wish,
)


def idle_answer(text, *wished):
    return run(load(text), wish(*wished), IDLE)[2]


class FixedAnswers(unittest.TestCase):
    def test_the_worked_table(self):
        self.assertEqual(idle_answer(WORKED_TEXT, 1, 2, 4), [1, 4, 2 + 3 * 2])

    def test_nothing_wished_all_read_the_table(self):
        self.assertEqual(run(load(WORKED_TEXT), IDLE)[1], [0, 12 + 3 * 12])
        self.assertEqual(idle_answer(WORKED_TEXT), [0, 48])

    def test_no_questions(self):
        text = table_text(2, [(0, 1), (1, 1)])
        self.assertEqual(run(load(text), IDLE)[1], [0, 0])
        self.assertEqual(idle_answer(text, 3, 0, 2), [3, 0, 2, 3, 0])

    def test_a_table_without_rows(self):
        # All have no lines, so the least number is read.
        text = table_text(2, [], [(1, 5), (0, 7)])
        self.assertEqual(idle_answer(text), [0, 0])
        self.assertEqual(idle_answer(text, 1, 3), [1, 3, 0])
        self.assertEqual(idle_answer(text, 0, 1, 2, 3), [2, 2, 3, 0])

    def test_it_reads_its_own_grouping(self):
        self.assertEqual(idle_answer(table_text(2, [(0, 0), (0, 1)], [(3, 1)]), 3), [0, 2])

    def test_only_what_has_all_its_columns_can_be_read(self):
        text = table_text(3, [(0, 0, 0)] * 5, [(3, 1)])
        for grouping in (0, 1, 2, 4, 5, 6):
            self.assertEqual(idle_answer(text, grouping), [1, grouping, 5])
        for grouping in (3, 7):
            self.assertEqual(idle_answer(text, grouping), [0, 1])

    def test_the_least_size(self):
        # Sizes: 3 has 4 lines, 5 has 2; 7 has 4.
        text = table_text(3, [(0, 0, 0), (0, 1, 0), (1, 2, 0), (1, 3, 0), (1, 3, 0)], [(1, 1)])
        self.assertEqual(idle_answer(text, 3, 5, 7), [2, 3, 7, 2])
        self.assertEqual(idle_answer(text, 3, 7), [1, 7, 4])
        self.assertEqual(idle_answer(text, 7), [0, 4])

    def test_of_alike_ones_the_lesser_grouping(self):
        text = table_text(3, [(0, 0, 0)] * 3, [(1, 1)])
        self.assertEqual(idle_answer(text, 7, 5, 3), [2, 5, 7, 1])
        self.assertEqual(idle_answer(text, 7, 5), [1, 7, 1])

    def test_a_kept_one_as_large_as_the_table_is_read(self):
        text = table_text(2, [(0, 0), (0, 1), (1, 0)], [(1, 1)])
        self.assertEqual(idle_answer(text, 3), [0, 3])

    def test_the_table_if_there_is_none(self):
        text = table_text(2, [(0, 0), (0, 1), (0, 1)], [(3, 2), (1, 1)])
        self.assertEqual(idle_answer(text, 1), [0, 2 * 3 + 1])
        self.assertEqual(idle_answer(text, 2), [1, 2, 2 * 3 + 3])

    def test_as_often_as_it_comes(self):
        text = "columns a ; row 1 : 1 ; row 2 : 1 ; row 2 : 1 ; ask a times 99 ; ask a ; ask ; ask times 4 ;"
        self.assertEqual(idle_answer(text), [0, 3 * (99 + 1 + 1 + 4)])
        self.assertEqual(idle_answer(text, 1), [0, 2 * 105])
        self.assertEqual(idle_answer(text, 0, 1), [0, 2 * 100 + 5])

    def test_a_question_by_no_columns_can_read_each(self):
        text = table_text(2, [(0, 0), (0, 1), (1, 2)], [])
        for grouping, size in ((0, 1), (1, 2), (2, 3), (3, 3)):
            self.assertEqual(idle_answer(text + " ask ;", grouping), [0, size])

    def test_one_question_told_twice(self):
        text = table_text(1, [(0,), (1,)], [(1, 2), (1, 3)])
        self.assertEqual(idle_answer(text, 1, 0), [1, 0, 10])

    def test_told_by_number_once_each(self):
        text = table_text(3, [(0, 0, 0)], [(7, 1)])
        self.assertEqual(idle_answer(text, 6, 1, 6, 3, 1, 7), [3, 1, 3, 6, 1])


class Searched(unittest.TestCase):
    def test_random_tables(self):
        chance = random.Random(21)
        unlike = set()
        for turn in range(600):
            width = turn % 4 + 1
            rows, wished = random_case(chance, width)
            questions = random_questions(chance, width)
            sizes = sizes_of(width, rows)
            reads = [source_read(asked, wished, sizes) for asked, _ in questions]
            idle = [grouping for grouping in wished if grouping not in reads]
            lines = [len(rows) if source == TABLE else sizes[source] for source in reads]
            cost = sum(times * size for size, (_, times) in zip(lines, questions))
            told = idle_answer(table_text(width, rows, questions), *wished)
            self.assertEqual(told, [len(idle)] + idle + [cost], (rows, questions, wished))
            unlike.add((len(idle), len(wished)))
        self.assertGreater(len(unlike), 20)


class NothingChanges(unittest.TestCase):
    def test_the_object_is_left_as_it_was(self):
        told = run(
            load(WORKED_TEXT), wish(1, 2, 4, 7), SHOWN, PLAIN, BEST, IDLE, SHOWN, PLAIN, BEST, IDLE,
        )
        self.assertEqual(told[5], [2, 4, 7, 8])
        self.assertEqual(told[6:], told[2:6])


if __name__ == "__main__":
    unittest.main()

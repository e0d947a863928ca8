"""wish: what is wished, and its lines; plain: what it costs without helpers."""

import unittest

from tests.helper import PLAIN, WORKED_TEXT, load, run, table_text, wish

# Sizes by grouping, from 0 to 7: 1, 2, 2, 4, 3, 5, 3, 5.
SMALL = table_text(3, [(0, 0, 0), (0, 1, 1), (1, 0, 0), (1, 1, 2), (0, 0, 0), (1, 1, 1)])


class Wish(unittest.TestCase):
    def answer(self, *groupings):
        return run(load(SMALL), wish(*groupings))[1]

    def test_size_of_each_grouping(self):
        sizes = [self.answer(grouping)[2] for grouping in range(8)]
        self.assertEqual(sizes, [1, 2, 2, 4, 3, 5, 3, 5])

    def test_lines_together(self):
        self.assertEqual(self.answer(0, 1, 2, 3, 4, 5, 6, 7), [1, 8, 25])
        self.assertEqual(self.answer(6, 1), [1, 2, 5])

    def test_unlike_ones_are_counted_once(self):
        self.assertEqual(self.answer(5, 1, 5, 5, 1), [1, 2, 7])
        self.assertEqual(self.answer(*([7] * 2000)), [1, 1, 5])

    def test_none_wished(self):
        self.assertEqual(self.answer(), [1, 0, 0])

    def test_table_without_rows(self):
        self.assertEqual(run(load("columns a, b ;"), wish(0, 1, 2, 3))[1], [1, 4, 0])

    def test_only_just_these_are_wished_from_now_on(self):
        told = run(load(SMALL), wish(1, 2), wish(4), PLAIN, wish(), PLAIN)
        self.assertEqual(told[3], [9, 1, 4, -1])
        self.assertEqual(told[5], [0, 0])

    def test_no_grouping(self):
        for number in (-1, -2, 8, 9, 16, 10 ** 18, -(10 ** 18)):
            self.assertEqual(self.answer(number), [-2])
            self.assertEqual(self.answer(7, 0, number), [-2])
            self.assertEqual(self.answer(number, 7, 0), [-2])

    def test_how_many_groupings_there_are(self):
        for width in (1, 2, 3, 4):
            text = table_text(width, [(0,) * width])
            greatest = (1 << width) - 1
            self.assertEqual(run(load(text), wish(greatest), wish(greatest + 1))[1:], [[1, 1, 1], [-2]])

    def test_a_refused_wish_leaves_what_was_wished(self):
        told = run(load(SMALL), wish(1, 6), PLAIN, wish(2, 8), PLAIN, wish(-1), PLAIN)
        self.assertEqual(told[3], [-2])
        self.assertEqual(told[5], [-2])
        self.assertEqual(told[4], told[2])
        self.assertEqual(told[6], told[2])
        self.assertEqual(told[2][1], 2)


class Plain(unittest.TestCase):
    def answer(self, text, *groupings):
        return run(load(text), wish(*groupings), PLAIN)[2]

    def test_nothing_wished(self):
        self.assertEqual(run(load(SMALL), PLAIN)[1], [0, 0])
        self.assertEqual(self.answer(SMALL), [0, 0])

    def test_from_the_table(self):
        self.assertEqual(self.answer(SMALL, 7), [11, 1, 7, -1])
        self.assertEqual(self.answer(SMALL, 4, 3), [19, 2, 3, -1, 4, -1])

    def test_told_by_number_once_each(self):
        self.assertEqual(self.answer(SMALL, 4, 3, 4, 3), [19, 2, 3, -1, 4, -1])

    def test_parent_with_the_least_size(self):
        # 7 has 5 lines, 3 has 4: 1 and 2 read 3, but 4 reads 7.
        self.assertEqual(
            self.answer(SMALL, 1, 2, 3, 4, 7),
            [(4 + 2) + (4 + 2) + (5 + 4) + (5 + 3) + (6 + 5), 5, 1, 3, 2, 3, 3, 7, 4, 7, 7, -1],
        )

    def test_a_greater_number_with_a_lesser_size(self):
        # 3 has 4 lines, 5 and 9 have 2.
        text = table_text(4, [(0, 0, 0, 0), (0, 1, 0, 0), (1, 2, 1, 1), (1, 3, 1, 1)])
        self.assertEqual(self.answer(text, 1, 3, 9), [(2 + 2) + (4 + 4) + (4 + 2), 3, 1, 9, 3, -1, 9, -1])

    def test_of_alike_ones_the_lesser_number(self):
        # 3 and 5 have 4 lines each.
        self.assertEqual(
            self.answer(WORKED_TEXT, 1, 3, 5),
            [(4 + 2) + (12 + 4) + (12 + 4), 3, 1, 3, 3, -1, 5, -1],
        )
        # Here everything has one line, so each reads the least number above it.
        text = table_text(3, [(5, 6, 7), (5, 6, 7)])
        self.assertEqual(
            self.answer(text, 0, 1, 2, 3, 4, 5, 6, 7),
            [7 * 2 + 3, 8, 0, 1, 1, 3, 2, 3, 3, 7, 4, 5, 5, 7, 6, 7, 7, -1],
        )

    def test_a_grouping_is_not_above_itself_or_what_has_other_columns(self):
        self.assertEqual(self.answer(WORKED_TEXT, 1, 2, 4), [42, 3, 1, -1, 2, -1, 4, -1])
        self.assertEqual(self.answer(WORKED_TEXT, 3, 4), [12 + 4 + 12 + 2, 2, 3, -1, 4, -1])

    def test_table_without_rows(self):
        self.assertEqual(self.answer("columns a, b ;", 0, 1, 3), [0, 3, 0, 1, 1, 3, 3, -1])


if __name__ == "__main__":
    unittest.main()

"""Lists of calls: several on one object, and what they leave behind."""

import unittest

from buildanswers.plans import answers
from tests.helper import BEST, PLAIN, SHOWN, WORKED_TEXT, load, run, split, wish

CHECK = [5, 2, 7, -1]
IDLE = [6]
FROM = [7, 1]
HELP = [8, 1, 3]


class Calls(unittest.TestCase):
    def test_every_call_but_load_is_refused_without_a_table(self):
        for call in (SHOWN, wish(), wish(0), wish(-5), PLAIN, BEST, CHECK, [5, 1, 9], IDLE, FROM, [7, -9], HELP):
            self.assertEqual(answers(call), [1, -1], call)

    def test_calls_behind_refused_ones_are_read_at_their_place(self):
        told = run(CHECK, SHOWN, FROM, IDLE, HELP, wish(1, 2), load("columns a ;"), SHOWN)
        self.assertEqual(told[:6], [[-1]] * 6)
        self.assertEqual(told[6], [1, 1, 0, 0])
        self.assertEqual(len(told), 8)

    def test_several_calls_on_one_object(self):
        told = run(
            PLAIN,
            load("columns a, b ; row 0, 0 : 1 ; row 0, 1 : 1 ;"),
            wish(3, 0),
            PLAIN,
            wish(4),
            BEST,
            load("oops"),
            wish(1),
            PLAIN,
            load("columns z ;"),
            PLAIN,
            wish(0, 1),
            PLAIN,
        )
        self.assertEqual(
            told,
            [
                [-1],
                [1, 2, 2, 0],
                [1, 2, 3],
                [(2 + 1) + (2 + 2), 2, 0, 3, 3, -1],
                [-2],
                [7, 3, 0, 2, 3, -1, 0, 3],
                [0, 3, 0],
                [1, 1, 1],
                [3, 1, 1, -1],
                [1, 1, 0, 0],
                [0, 0],
                [1, 2, 0],
                [0, 2, 0, 1, 1, -1],
            ],
        )

    def test_twenty_calls(self):
        calls = load(WORKED_TEXT)
        for turn in range(6):
            calls += wish(1, 2, 4) + PLAIN + BEST
        calls += SHOWN
        told = split(answers(calls))
        self.assertEqual(len(told), 20)
        self.assertEqual(told[1:4] * 6, told[1:19])
        self.assertEqual(told[3][:4], [38, 11, 1, 7])
        self.assertEqual(told[19][0], 261)

    def test_twenty_calls_of_the_greatest_tables(self):
        rows = "".join([f"row {n & 1}, {n >> 1 & 1}, {n >> 2 & 1}, {n >> 3} : 1 ;" for n in range(16)])
        calls = load("columns a, b, c, d ;" + rows) + wish(1, 2, 4, 8)
        for turn in range(18):
            calls += BEST
        told = split(answers(calls))
        self.assertEqual(len(told), 20)
        self.assertEqual(told[2:], [told[2]] * 18)

    def test_a_second_run_gives_the_same(self):
        calls = load(WORKED_TEXT) + wish(4, 1, 1, 2) + PLAIN + BEST + SHOWN + wish(9) + load("!") + PLAIN
        before = list(calls)
        first = answers(calls)
        self.assertEqual(calls, before)
        self.assertEqual(answers(calls), first)
        self.assertEqual(calls, before)

    def test_nothing_is_kept_for_the_next_list(self):
        answers(load(WORKED_TEXT) + wish(1))
        self.assertEqual(answers(PLAIN), [1, -1])

    def test_what_is_given_back_may_be_changed(self):
        calls = load(WORKED_TEXT) + wish(1, 2, 4) + BEST
        first = answers(calls)
        kept = list(first)
        first.clear()
        self.assertEqual(answers(calls), kept)

    def test_just_whole_numbers_are_answered(self):
        calls = load(WORKED_TEXT) + SHOWN + wish(1, 2, 4) + PLAIN + BEST + wish(-1) + load("?")
        told = answers(calls)
        self.assertIs(type(told), list)
        self.assertEqual({type(number) for number in told}, {int})


if __name__ == "__main__":
    unittest.main()

"""Lists of calls: several on one object, and what they leave behind."""

import random
import unittest

from buildanswers.plans import answers
from tests.helper import (
    BEST, IDLE, PLAIN, SHOWN, VERY_GREAT, WORKED_TEXT, check, check_steps, from_grouping, help_with, load,
    random_case, random_plan, random_questions, run, split, table_text, wish,
)

CHECK = check(7, -1)
FROM = from_grouping(1)
HELP = help_with(3)
# One of each kind that load does not answer, right ones and wrong ones.
NEEDING_A_TABLE = (
    SHOWN, PLAIN, BEST, IDLE,
    wish(), wish(0), wish(-5), wish(VERY_GREAT),
    check(), CHECK, check(1), check(1, 9), check(-VERY_GREAT, VERY_GREAT), check(0, -2),
    from_grouping(0), FROM, from_grouping(-9), from_grouping(VERY_GREAT), from_grouping(-VERY_GREAT),
    help_with(), HELP, help_with(-1), help_with(VERY_GREAT, 3), help_with(3, 3),
)


def random_call(chance):
    """Any call, now and then with a number that is no grouping or a text that is no table."""
    width = chance.randint(2, 4)
    rows, some = random_case(chance, width)
    if chance.random() < 0.1:
        some = some + [chance.choice((-3, -2, -1, 16, VERY_GREAT, -VERY_GREAT))]
    text = table_text(width, rows, random_questions(chance, width))
    if chance.random() < 0.3:
        text = text[:-1]
    plan = random_plan(chance, width, 6)
    number = chance.choice(some + [1])
    calls = (load(text), SHOWN, wish(*some), PLAIN, BEST, check_steps(plan), IDLE, from_grouping(number))
    return chance.choice(calls + (wish(*some[:3]), check(*some), help_with(*some[:2]), help_with(*some)))


class Calls(unittest.TestCase):
    def test_every_call_but_load_is_refused_without_a_table(self):
        for call in NEEDING_A_TABLE:
            self.assertEqual(answers(call), [1, -1], call)
            self.assertEqual(run(load("columns"), call, call), [[0, 3, 7], [-1], [-1]], call)

    def test_with_a_table_none_is_refused_so(self):
        for call in NEEDING_A_TABLE:
            self.assertNotEqual(run(load(WORKED_TEXT), call)[1], [-1], call)

    def test_calls_behind_refused_ones_are_read_at_their_place(self):
        told = run(CHECK, SHOWN, FROM, IDLE, HELP, wish(1, 2), load("columns a ;"), SHOWN)
        self.assertEqual(told[:6], [[-1]] * 6)
        self.assertEqual(told[6], [1, 1, 0, 0])
        self.assertEqual(len(told), 8)

    def test_several_calls_on_one_object(self):
        told = run(
            PLAIN,
            load("columns a, b ; row 0, 0 : 1 ; row 0, 1 : 1 ;"),
            wish(3, 0),
            PLAIN,
            wish(4),
            BEST,
            load("oops"),
            wish(1),
            PLAIN,
            load("columns z ;"),
            PLAIN,
            wish(0, 1),
            PLAIN,
        )
        self.assertEqual(
            told,
            [
                [-1],
                [1, 2, 2, 0],
                [1, 2, 3],
                [(2 + 1) + (2 + 2), 2, 0, 3, 3, -1],
                [-2],
                [7, 3, 0, 2, 3, -1, 0, 3],
                [0, 3, 0],
                [1, 1, 1],
                [3, 1, 1, -1],
                [1, 1, 0, 0],
                [0, 0],
                [1, 2, 0],
                [0, 2, 0, 1, 1, -1],
            ],
        )

    def test_twenty_calls(self):
        calls = load(WORKED_TEXT)
        for turn in range(6):
            calls += wish(1, 2, 4) + PLAIN + BEST
        calls += SHOWN
        told = split(answers(calls))
        self.assertEqual(len(told), 20)
        self.assertEqual(told[1:4] * 6, told[1:19])
        self.assertEqual(told[3][:4], [38, 11, 1, 7])
        self.assertEqual(told[19][0], 261)

    def test_twenty_calls_of_all_kinds(self):
        text = "columns a, b ; row 0, 0 : 1 ; row 0, 1 : 2 ; row 0, 1 : 3 ; row 0, 0 : 4 ; ask a times 2 ; ask b ;"
        form = text.replace(" ; ", " ;\n") + "\n"
        told = run(
            IDLE,
            load(text),
            SHOWN,
            check(3, -1, 3, -2),
            wish(0, 1, 2),
            PLAIN,
            BEST,
            check(3, -1, 1, 3, 2, 3, 0, 1, 3, -2),
            check(1, -1, 0, 1),
            IDLE,
            from_grouping(0),
            from_grouping(4),
            help_with(3),
            help_with(0, 3),
            help_with(0, 4),
            check(4, -1),
            load("columns a"),
            load("columns z ; row 7 : 1 ; ask ;"),
            IDLE,
            help_with(0),
        )
        self.assertEqual(
            told,
            [
                [-1],
                [1, 2, 4, 2],
                [len(form)] + list(form.encode("ascii")),
                [1, 2, 6, 2, 0],
                [1, 3, 4],
                [2 + 5 + 6, 3, 0, 1, 1, -1, 2, -1],
                [13, 4, 0, 3, 1, -1, 2, -1, 0, 1],
                [1, 5, 6 + 3 + 4 + 2, 6, 4],
                [0, 2, 5 + 2, 2, 2],
                [1, 0, 2 * 1 + 2],
                [5, 3, 1, 2, 2, 3, 3, 3],
                [-2],
                [15, 5, 1, 3, 5, 3, -1, 1, 3, 2, 3, 3, -2, 0, 1],
                [-3],
                [-2],
                [-4],
                [0, 3, 9],
                [1, 1, 1, 1],
                [0, 1],
                [2, 1, 1, 0, 2, 0, -1, 0, -2],
            ],
        )

    def test_each_call_answers_as_if_only_the_last_right_load_and_wish_stood_ahead_of_it(self):
        chance = random.Random(61)
        for turn in range(120):
            calls = [random_call(chance) for place in range(20)]
            if turn % 4 > 0:
                calls[0] = load(WORKED_TEXT)
            ahead = []
            for call, told in zip(calls, run(*calls)):
                self.assertEqual(run(*ahead, call)[-1], told, calls)
                if call[0] == 0 and told[0] == 1:
                    ahead = [call]
                elif call[0] == 2 and told[0] == 1:
                    ahead = [ahead[0], call]

    def test_the_longest_lists(self):
        calls = load(WORKED_TEXT) + wish(1)
        for turn in range(4):
            calls += check(*[1, -1, 1, -2] * 499 + [1, -1, 2, 1]) + help_with(*[3] * 1999 + [1])
        told = split(answers(calls + load([32] * 500)))
        self.assertEqual(told[2:], [[0, 999, 14 * 500, 2, 2], [-3]] * 4 + [[0, 3, 500]])

    def test_twenty_calls_of_the_greatest_tables(self):
        rows = "".join([f"row {n & 1}, {n >> 1 & 1}, {n >> 2 & 1}, {n >> 3} : 1 ;" for n in range(16)])
        calls = load("columns a, b, c, d ;" + rows) + wish(1, 2, 4, 8)
        for turn in range(18):
            calls += BEST
        told = split(answers(calls))
        self.assertEqual(len(told), 20)
        self.assertEqual(told[2:], [told[2]] * 18)

    def test_a_second_run_gives_the_same(self):
        calls = load(WORKED_TEXT) + wish(4, 1, 1, 2) + PLAIN + BEST + SHOWN + wish(9) + load("!") + PLAIN
        calls += CHECK + check(1, 1, 1) + IDLE + FROM + from_grouping(8) + help_with(7, 3, 3) + help_with(2)
        before = list(calls)
        first = answers(calls)
        self.assertEqual(calls, before)
        self.assertEqual(answers(calls), first)
        self.assertEqual(calls, before)

    def test_nothing_is_kept_for_the_next_list(self):
        answers(load(WORKED_TEXT) + wish(1))
        for call in NEEDING_A_TABLE:
            self.assertEqual(answers(call), [1, -1], call)

    def test_what_is_given_back_may_be_changed(self):
        calls = load(WORKED_TEXT) + wish(1, 2, 4) + BEST
        first = answers(calls)
        kept = list(first)
        first.clear()
        self.assertEqual(answers(calls), kept)

    def test_just_whole_numbers_are_answered(self):
        calls = load(WORKED_TEXT) + SHOWN + wish(1, 2, 4) + PLAIN + BEST + wish(-1) + load("?")
        calls += CHECK + check(1, -1, 2, -1, 4, -1) + check(8) + IDLE + FROM + from_grouping(9) + HELP + help_with(1)
        told = answers(calls)
        self.assertIs(type(told), list)
        self.assertEqual({type(number) for number in told}, {int})


if __name__ == "__main__":
    unittest.main()

"""What several tests share: lists of calls, their answers, tables as texts, and a model of what is built.

The model works on rows that are tuples of values, and draws nothing from the program.
"""

import itertools

from buildanswers.plans import answers

SHOWN = [1]
PLAIN = [3]
BEST = [4]
IDLE = [6]
TABLE = -1
DROP = -2
VERY_GREAT = 10 ** 18

WORKED_TEXT = (
    "columns a, b, c ; row 0, 0, 0 : 1 ; row 0, 1, 1 : 2 ; row 1, 0, 1 : 3 ; row 1, 1, 0 : 4 ; "
    "row 0, 0, 0 : 5 ; row 0, 0, 1 : 6 ; row 0, 0, 0 : 7 ; row 0, 1, 1 : 8 ; row 1, 0, 1 : 9 ; "
    "row 1, 1, 0 : 10 ; row 0, 1, 1 : 11 ; row 0, 0, 0 : 12 ; ask a ; ask b times 3 ;"
)


def codes_of(text):
    """Bytes of a text; a list is taken to be bytes already."""
    return list(text) if isinstance(text, list) else list(text.encode("ascii"))


def load(text):
    codes = codes_of(text)
    return [0, len(codes)] + codes


def wish(*groupings):
    return [2, len(groupings)] + list(groupings)


def check(*numbers):
    return [5, len(numbers)] + list(numbers)


def check_steps(steps):
    return check(*[number for step in steps for number in step])


def from_grouping(number):
    return [7, number]


def help_with(*groupings):
    return [8, len(groupings)] + list(groupings)


def split(told):
    """The answers one by one, without the counts ahead of them."""
    found = []
    place = 0
    while place < len(told):
        end = place + 1 + told[place]
        assert end <= len(told), told
        found.append(told[place + 1:end])
        place = end
    return found


def run(*calls):
    return split(answers([number for call in calls for number in call]))


def load_answer(text):
    return run(load(text))[0]


def form_of(text):
    """The one form of a table's text, as a text."""
    loaded, shown = run(load(text), SHOWN)
    assert loaded[0] == 1, loaded
    assert shown[0] == len(shown) - 1, shown
    return bytes(shown[1:]).decode("ascii")


def table_text(width, rows, questions=()):
    """A text for rows that are tuples of values, and questions that are (grouping, times)."""
    names = "abcd"[:width]
    lines = ["columns " + ", ".join(names) + " ;"]
    for place, row in enumerate(rows):
        lines.append("row " + ", ".join([str(number) for number in row]) + f" : {place} ;")
    for grouping, times in questions:
        asked = ", ".join([names[column] for column in columns_in(grouping)])
        lines.append(f"ask {asked} times {times} ;")
    return "\n".join(lines)


class Told:
    """What best or help answers, taken apart."""

    def __init__(self, answer):
        self.cost, self.most, helper_count = answer[:3]
        self.helpers = answer[3:3 + helper_count]
        step_count = answer[3 + helper_count]
        flat = answer[4 + helper_count:]
        assert len(flat) == 2 * step_count, answer
        self.steps = list(zip(flat[::2], flat[1::2]))


def columns_in(grouping):
    return [column for column in range(4) if grouping & (1 << column)]


def plain_answer(rows, grouping):
    """What is summed (each row's place) and how many rows, for each unlike group."""
    return regrouped([(row, place, 1) for place, row in enumerate(rows)], columns_in(grouping))


def answer_from(answer, source, grouping):
    """The grouping's answer, worked out from that of the source."""
    held = columns_in(source)
    lines = [(key, summed, count) for key, (summed, count) in answer.items()]
    return regrouped(lines, [held.index(column) for column in columns_in(grouping)])


def regrouped(lines, places):
    found = {}
    for key, summed, count in lines:
        lesser = tuple(key[place] for place in places)
        before = found.get(lesser, (0, 0))
        found[lesser] = (before[0] + summed, before[1] + count)
    return found


def sizes_of(width, rows):
    return [len(plain_answer(rows, grouping)) for grouping in range(1 << width)]


def above(upper, lower):
    return upper != lower and upper | lower == upper


def parent(grouping, members, sizes):
    found = sorted((sizes[other], other) for other in members if above(other, grouping))
    return found[0][1] if found else TABLE


def searched_cost(members, sizes, row_count):
    """What some groupings cost, built together."""
    cost = 0
    for grouping in set(members):
        reads = [sizes[other] for other in members if above(other, grouping)]
        cost += min(reads, default=row_count) + sizes[grouping]
    return cost


def searched_helpers(wished, sizes, row_count):
    """The cost with the best helpers, and they, from all choices of at most three."""
    others = [grouping for grouping in range(len(sizes)) if grouping not in wished]
    found = []
    for count in range(4):
        for helpers in itertools.combinations(others, count):
            cost = searched_cost(list(wished) + list(helpers), sizes, row_count)
            found.append((cost, count, sum(2 ** grouping for grouping in helpers), list(helpers)))
    cost, _, _, helpers = min(found)
    return cost, helpers


def source_read(asked, kept, sizes):
    """What a question reads, with these answers kept."""
    found = sorted((sizes[grouping], grouping) for grouping in kept if grouping | asked == grouping)
    return found[0][1] if found else TABLE


def expected_steps(wished, helpers, sizes):
    members = sorted(list(wished) + list(helpers), key=lambda grouping: (-len(columns_in(grouping)), grouping))
    steps = []
    for place, grouping in enumerate(members):
        steps.append((grouping, parent(grouping, members, sizes)))
        to_come = [parent(other, members, sizes) for other in members[place + 1:]]
        dropped = [step[0] for step in steps if step[1] == DROP]
        for helper in sorted(helpers):
            if helper in members[:place + 1] and helper not in dropped and helper not in to_come:
                steps.append((helper, DROP))
    return steps


class Replay:
    """Steps carried out with real answers, up to the first that cannot be done."""

    def __init__(self, steps, rows):
        self.rows = rows
        self.there = {}
        self.done = 0
        self.cost = 0
        self.most = 0
        for grouping, source in steps:
            if not self.can_do(grouping, source):
                break
            self.carry_out(grouping, source)
            self.done += 1
            self.most = max(self.most, self.lines())
        self.whole = self.done == len(steps)

    def can_do(self, grouping, source):
        if source == DROP:
            return grouping in self.there
        return grouping not in self.there and (source == TABLE or source in self.there and above(source, grouping))

    def carry_out(self, grouping, source):
        if source == DROP:
            del self.there[grouping]
            return
        if source == TABLE:
            self.there[grouping] = plain_answer(self.rows, grouping)
            read = len(self.rows)
        else:
            self.there[grouping] = answer_from(self.there[source], source, grouping)
            read = len(self.there[source])
        self.cost += read + len(self.there[grouping])

    def lines(self):
        return sum(len(answer) for answer in self.there.values())

    def check_answer(self, wished):
        right = self.whole and sorted(self.there) == sorted(set(wished))
        return [int(right), self.done, self.cost, self.most, self.lines()]


def random_case(chance, width):
    """Rows and what is wished; few unlike values, so that helpers often pay."""
    greatest = [chance.choice((0, 0, 1, 1, 2, 3)) for _ in range(width)]
    row_count = chance.choice((0, 1, 4, 8, 12, 16, 16, 16))
    rows = [tuple(chance.randint(0, most) for most in greatest) for _ in range(row_count)]
    wished = chance.sample(range(1 << width), chance.randint(0, min(7, 1 << width)))
    return rows, sorted(wished)


def product_case(chance):
    """All rows of some values for each column, and groupings of few columns: here more helpers pay."""
    counts = chance.choice(([2, 2, 2, 2], [4, 4, 1, 1], [4, 2, 2, 1], [3, 5, 1, 1], [2, 8, 1, 1]))
    chance.shuffle(counts)
    rows = list(itertools.product(*[range(count) for count in counts]))
    small = [grouping for grouping in range(16) if len(columns_in(grouping)) <= 2]
    return rows, sorted(chance.sample(small, chance.randint(4, 8)))


def random_plan(chance, width, most_steps):
    """Steps most of which can be done."""
    steps = []
    there = []
    for _ in range(chance.randint(0, most_steps)):
        grouping = chance.randrange(1 << width)
        if grouping in there and chance.random() < 0.9:
            steps.append((grouping, DROP))
            there.remove(grouping)
            continue
        sources = [other for other in there if above(other, grouping)] + [TABLE]
        if chance.random() < 0.04:
            sources = [TABLE, DROP] + list(range(1 << width))
        steps.append((grouping, chance.choice(sources)))
        there.append(grouping)
    return steps


def random_questions(chance, width):
    return [(chance.randrange(1 << width), chance.randint(1, 99)) for _ in range(chance.randint(0, 8))]

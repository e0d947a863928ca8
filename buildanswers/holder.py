"""The object that the calls are made on, and what each call answers."""

from buildanswers.building import FROM_TABLE, Measures, all_above, cost_together, parent_among, step_cost
from buildanswers.checking import cost_of_steps, done_steps, steps_in
from buildanswers.faults import TableFault
from buildanswers.helpers import DROPPED, best_helpers, most_lines, plan_steps
from buildanswers.reading import cost_of_questions, idle_ones
from buildanswers.tables import one_form, read_table

NO_GROUPING = -2
HELPER_IS_WISHED = -3
NO_PLAN = -4


class Holder:
    """A table and what is wished of it, by number; no table at first."""

    def __init__(self):
        self.table = None
        self.measures = None
        self.wished = []

    def load(self, text):
        try:
            table = read_table(text)
        except TableFault as fault:
            return [0, fault.code, fault.place]
        self.table = table
        self.measures = Measures(table)
        self.wished = []
        return [1, len(table.columns), len(table.rows), len(table.questions)]

    def shown(self):
        form = one_form(self.table)
        return [len(form)] + form

    def wish(self, groupings):
        if not self.are_groupings(groupings):
            return [NO_GROUPING]
        self.wished = sorted(set(groupings))
        return [1, len(self.wished), self.measures.lines_together(self.wished)]

    def plain(self):
        parents = [(grouping, parent_among(grouping, self.wished, self.measures)) for grouping in self.wished]
        return [cost_together(self.wished, self.measures)] + counted_pairs(parents)

    def best(self):
        return self.told_plan(best_helpers(self.wished, self.measures))

    def check(self, plan):
        if not self.is_plan(plan):
            return [NO_PLAN]
        steps = steps_in(plan)
        done, there = done_steps(steps)
        is_right = len(done) == len(steps) and there == self.wished
        return [
            1 if is_right else 0,
            len(done),
            cost_of_steps(done, self.measures),
            most_lines(done, self.measures),
            self.measures.lines_together(there),
        ]

    def idle(self):
        unread = idle_ones(self.table.questions, self.wished, self.measures)
        cost = cost_of_questions(self.table.questions, self.wished, self.measures)
        return [len(unread)] + unread + [cost]

    def ways_to_build(self, grouping):
        if not self.is_grouping(grouping):
            return [NO_GROUPING]
        above = all_above(grouping, list(range(len(self.measures.sizes))))
        costs = [(source, step_cost(grouping, source, self.measures)) for source in above]
        return [step_cost(grouping, FROM_TABLE, self.measures)] + counted_pairs(costs)

    def with_helpers(self, groupings):
        if not self.are_groupings(groupings):
            return [NO_GROUPING]
        if any([grouping in self.wished for grouping in groupings]):
            return [HELPER_IS_WISHED]
        return self.told_plan(sorted(set(groupings)))

    def told_plan(self, helpers):
        """What is told of building what is wished with these helpers, which are in the order of their numbers."""
        steps = plan_steps(self.wished, helpers, self.measures)
        cost = cost_together(self.wished + helpers, self.measures)
        return [cost, most_lines(steps, self.measures), len(helpers)] + helpers + counted_pairs(steps)

    def is_grouping(self, number):
        return 0 <= number < len(self.measures.sizes)

    def are_groupings(self, numbers):
        return all([self.is_grouping(number) for number in numbers])

    def is_plan(self, numbers):
        if len(numbers) % 2 > 0:
            return False
        return all([self.is_step(grouping, source) for grouping, source in steps_in(numbers)])

    def is_step(self, grouping, source):
        return self.is_grouping(grouping) and (source in (FROM_TABLE, DROPPED) or self.is_grouping(source))


def counted_pairs(pairs):
    """How many pairs there are, then their numbers."""
    told = [len(pairs)]
    for first, second in pairs:
        told.append(first)
        told.append(second)
    return told

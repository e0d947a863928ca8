"""The object that the calls are made on, and what each call answers."""

from buildanswers.building import Measures, cost_together, parent_among
from buildanswers.faults import TableFault
from buildanswers.helpers import best_helpers, most_lines, plan_steps
from buildanswers.tables import one_form, read_table

NO_GROUPING = -2


class Holder:
    """A table and what is wished of it, by number; no table at first."""

    def __init__(self):
        self.table = None
        self.measures = None
        self.wished = []

    def load(self, text):
        try:
            table = read_table(text)
        except TableFault as fault:
            return [0, fault.code, fault.place]
        self.table = table
        self.measures = Measures(table)
        self.wished = []
        return [1, len(table.columns), len(table.rows), len(table.questions)]

    def shown(self):
        form = one_form(self.table)
        return [len(form)] + form

    def wish(self, groupings):
        for grouping in groupings:
            if not self.is_grouping(grouping):
                return [NO_GROUPING]
        self.wished = sorted(set(groupings))
        lines = sum([self.measures.sizes[grouping] for grouping in self.wished])
        return [1, len(self.wished), lines]

    def is_grouping(self, number):
        return 0 <= number < len(self.measures.sizes)

    def plain(self):
        told = [cost_together(self.wished, self.measures), len(self.wished)]
        for grouping in self.wished:
            told.append(grouping)
            told.append(parent_among(grouping, self.wished, self.measures))
        return told

    def best(self):
        return self.told_plan(best_helpers(self.wished, self.measures))

    def told_plan(self, helpers):
        """What is told of building what is wished with these helpers, which are in the order of their numbers."""
        steps = plan_steps(self.wished, helpers, self.measures)
        told = [cost_together(self.wished + helpers, self.measures), most_lines(steps, self.measures)]
        told.append(len(helpers))
        told.extend(helpers)
        told.append(len(steps))
        for grouping, source in steps:
            told.append(grouping)
            told.append(source)
        return told

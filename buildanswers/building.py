"""Groupings: their sizes, what they are built from, and what that costs."""

FROM_TABLE = -1


class Measures:
    """How many rows a table has, and how many lines the answer of each grouping has."""

    def __init__(self, table):
        self.row_count = len(table.rows)
        self.sizes = [line_count(table.rows, grouping) for grouping in range(1 << len(table.columns))]

    def lines_read(self, source):
        if source == FROM_TABLE:
            return self.row_count
        return self.sizes[source]

    def lines_together(self, groupings):
        return sum([self.sizes[grouping] for grouping in groupings])


def line_count(rows, grouping):
    return len(set([values_in(row_values, grouping) for row_values, summed in rows]))


def values_in(row_values, grouping):
    return tuple([number for place, number in enumerate(row_values) if grouping >> place & 1])


def has_all_columns(upper, lower):
    return upper & lower == lower


def is_above(upper, lower):
    return upper != lower and has_all_columns(upper, lower)


def all_above(grouping, groupings):
    return [other for other in groupings if is_above(other, grouping)]


def smallest(groupings, measures):
    """The one with the least size, of alike ones the lesser number; the table if there is none."""
    return min(groupings, key=lambda grouping: (measures.sizes[grouping], grouping), default=FROM_TABLE)


def parent_among(grouping, groupings, measures):
    return smallest(all_above(grouping, groupings), measures)


def step_cost(grouping, source, measures):
    """What is read, and what is written."""
    return measures.lines_read(source) + measures.sizes[grouping]


def cost_together(groupings, measures):
    costs = [
        step_cost(grouping, parent_among(grouping, groupings, measures), measures)
        for grouping in groupings
    ]
    return sum(costs)

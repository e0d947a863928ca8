"""Questions: what each one reads while some answers are kept, and what that costs."""

from buildanswers.building import has_all_columns, smallest


def what_is_read(asked, kept, measures):
    """The kept grouping that a question grouped by these columns reads, or the table."""
    usable = [grouping for grouping in kept if has_all_columns(grouping, asked)]
    return smallest(usable, measures)


def idle_ones(questions, kept, measures):
    """The kept groupings that no question reads, in the order in which they are kept."""
    sources = [what_is_read(asked, kept, measures) for asked, times in questions]
    return [grouping for grouping in kept if grouping not in sources]


def cost_of_questions(questions, kept, measures):
    costs = [times * measures.lines_read(what_is_read(asked, kept, measures)) for asked, times in questions]
    return sum(costs)

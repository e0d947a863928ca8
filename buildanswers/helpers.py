"""Helpers: which ones are best, and the plan that builds and drops them."""

from buildanswers.building import cost_together, parent_among

MOST_HELPERS = 3
DROPPED = -2


def best_helpers(wished, measures):
    """The helpers, by number, with which all built together cost least."""
    others = [grouping for grouping in range(len(measures.sizes)) if grouping not in wished]
    return min(
        helper_sets(others),
        key=lambda helpers: (cost_together(wished + helpers, measures), len(helpers), set_number(helpers)),
    )


def helper_sets(groupings):
    """All choices of at most MOST_HELPERS of the groupings, each in their order."""
    choices = [[]]
    for grouping in groupings:
        larger = [chosen + [grouping] for chosen in choices if len(chosen) < MOST_HELPERS]
        choices = choices + larger
    return choices


def set_number(groupings):
    return sum([1 << grouping for grouping in groupings])


def plan_steps(wished, helpers, measures):
    """Steps of a grouping and what it is built from, or DROPPED."""
    order = sorted(wished + helpers, key=lambda grouping: (-column_count(grouping), grouping))
    parents = [parent_among(grouping, order, measures) for grouping in order]
    steps = []
    waiting = []
    for place, grouping in enumerate(order):
        steps.append((grouping, parents[place]))
        if grouping in helpers:
            waiting.append(grouping)
        still_read = parents[place + 1:]
        for helper in sorted(waiting):
            if helper not in still_read:
                steps.append((helper, DROPPED))
        waiting = [helper for helper in waiting if helper in still_read]
    return steps


def column_count(grouping):
    found = 0
    while grouping > 0:
        found += grouping & 1
        grouping = grouping >> 1
    return found


def most_lines(steps, measures):
    """The lines of all that are there, behind the step at which they are most."""
    lines = 0
    most = 0
    for grouping, source in steps:
        if source == DROPPED:
            lines -= measures.sizes[grouping]
        else:
            lines += measures.sizes[grouping]
        most = max(most, lines)
    return most

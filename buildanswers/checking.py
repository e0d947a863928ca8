"""Plans that are handed in: which of their steps can be done, and what these cost."""

from buildanswers.building import FROM_TABLE, is_above, step_cost
from buildanswers.helpers import DROPPED


def steps_in(plan):
    """The steps that are told by two numbers each."""
    return [(plan[place], plan[place + 1]) for place in range(0, len(plan), 2)]


def done_steps(steps):
    """The steps up to the first that cannot be done, and what is there behind them, by number."""
    there = []
    for place, step in enumerate(steps):
        grouping, source = step
        if not can_be_done(grouping, source, there):
            return steps[:place], there
        there = there_behind(grouping, source, there)
    return steps, there


def can_be_done(grouping, source, there):
    if source == DROPPED:
        return grouping in there
    if grouping in there:
        return False
    return source == FROM_TABLE or (source in there and is_above(source, grouping))


def there_behind(grouping, source, there):
    if source == DROPPED:
        return [other for other in there if other != grouping]
    return sorted(there + [grouping])


def cost_of_steps(steps, measures):
    """Dropping costs nothing."""
    return sum([step_cost(grouping, source, measures) for grouping, source in steps if source != DROPPED])

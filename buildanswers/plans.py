"""Lists of calls on one new object: how they are read and answered."""

from buildanswers.holder import Holder

LOAD = 0
SHOWN = 1
WISH = 2
PLAIN = 3
BEST = 4
CHECK = 5
IDLE = 6
FROM = 7
# How many whole numbers and how many lists each call has, in the order of the calls' numbers;
# the last one is help.
WHOLE_NUMBERS = (0, 0, 0, 0, 0, 0, 0, 1, 0)
LISTS = (1, 0, 1, 0, 0, 1, 0, 0, 1)
NO_TABLE = -1


class CallWalk:
    """A list of calls, read number by number."""

    def __init__(self, calls):
        self.calls = calls
        self.position = 0

    def at_end(self):
        return self.position >= len(self.calls)

    def next_number(self):
        number = self.calls[self.position]
        self.position += 1
        return number

    def next_list(self):
        size = self.next_number()
        first = self.position
        self.position += size
        return self.calls[first:self.position]

    def next_arguments(self, call):
        """The call's whole numbers, then its lists."""
        arguments = [self.next_number() for turn in range(WHOLE_NUMBERS[call])]
        for turn in range(LISTS[call]):
            arguments.append(self.next_list())
        return arguments


def answers(calls):
    """For each call how many numbers it answers, then these."""
    holder = Holder()
    walk = CallWalk(calls)
    told = []
    while not walk.at_end():
        call = walk.next_number()
        answer = answer_of(holder, call, walk.next_arguments(call))
        told.append(len(answer))
        told.extend(answer)
    return told


def answer_of(holder, call, arguments):
    if call == LOAD:
        return holder.load(arguments[0])
    if holder.table is None:
        return [NO_TABLE]
    if call == SHOWN:
        return holder.shown()
    if call == WISH:
        return holder.wish(arguments[0])
    if call == PLAIN:
        return holder.plain()
    if call == BEST:
        return holder.best()
    if call == CHECK:
        return holder.check(arguments[0])
    if call == IDLE:
        return holder.idle()
    if call == FROM:
        return holder.ways_to_build(arguments[0])
    return holder.with_helpers(arguments[0])

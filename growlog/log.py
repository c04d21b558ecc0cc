"""The log, and a list of calls on a new one."""

from growlog.bounds import MOST_BYTES, TOO_LONG
from growlog.tree import Tree, entry_stretches, growth_stretches

BEGIN = 0
ADD = 1
SIZE = 2
ROOT = 3
PATH = 4
GROWN = 5

MOST_ENTRIES = 8192

FULL = -2
NOT_THERE = -2


class UnknownCall(ValueError):
    pass


# Each method gives back the list of numbers that its call answers.
class Log:
    def __init__(self):
        self.tree = Tree()

    def begin(self):
        self.tree = Tree()
        return [0]

    def add(self, entry):
        # The document puts -1 ahead of -2, so the length is asked first.
        if len(entry) > MOST_BYTES:
            return [TOO_LONG]
        if self.how_many() >= MOST_ENTRIES:
            return [FULL]
        self.tree.grow(entry)
        return [self.how_many() - 1]

    def size(self):
        return [self.how_many()]

    def root(self, n):
        if n > self.how_many():
            return [NOT_THERE]
        return [0] + self.tree.stretch_root(0, n)

    def path(self, i, n):
        if n > self.how_many() or i >= n:
            return [NOT_THERE]
        return counted(self.tree.roots(entry_stretches(i, n)))

    def grown(self, a, n):
        if n > self.how_many() or a == 0 or a > n:
            return [NOT_THERE]
        return counted(self.tree.roots(growth_stretches(a, n)))

    def how_many(self):
        return len(self.tree.leaves)


def counted(digests):
    numbers = [len(digests)]
    for digest in digests:
        numbers.extend(digest)
    return numbers


def answers(calls):
    log = Log()
    given = []
    place = 0
    while place < len(calls):
        answer = answer_at(log, calls, place)
        given.append(len(answer))
        given.extend(answer)
        place = place + call_length(calls, place)
    return given


def answer_at(log, calls, place):
    call = calls[place]
    if call == BEGIN:
        return log.begin()
    if call == ADD:
        return log.add(entry_at(calls, place))
    if call == SIZE:
        return log.size()
    if call == ROOT:
        return log.root(calls[place + 1])
    if call == PATH:
        return log.path(calls[place + 1], calls[place + 2])
    if call == GROWN:
        return log.grown(calls[place + 1], calls[place + 2])
    # How far an unknown call reaches can't be told, so what follows can't be read.
    raise UnknownCall(f"no such call: {call}")


def entry_at(calls, place):
    start = place + 2
    return calls[start:start + calls[place + 1]]


def call_length(calls, place):
    call = calls[place]
    if call == ADD:
        return 2 + calls[place + 1]
    if call == ROOT:
        return 2
    if call == PATH or call == GROWN:
        return 3
    return 1

"""The tree of digests over a log's entries: its roots and its proofs.

A stretch is a tuple (start, stop): the entries from start up to, but not with, stop.
"""

from growlog.sha256 import digest_of


def leaf_digest(entry):
    return digest_of([0] + entry)


def node_digest(left, right):
    return digest_of([1] + left + right)


class Tree:
    def __init__(self):
        self.leaves = []
        # Entries are only added, so a root that is known once stays right.
        self.known = {}

    def grow(self, entry):
        self.leaves.append(leaf_digest(entry))

    def stretch_root(self, start, stop):
        if start == stop:
            return digest_of([])
        if stop - start == 1:
            return self.leaves[start]
        if (start, stop) not in self.known:
            middle = middle_of(start, stop)
            left = self.stretch_root(start, middle)
            right = self.stretch_root(middle, stop)
            self.known[(start, stop)] = node_digest(left, right)
        return self.known[(start, stop)]

    def roots(self, stretches):
        return [self.stretch_root(start, stop) for start, stop in stretches]


# The stretches whose roots are the proof that entry i is in the log of n. They
# are met on the way down to the entry; a proof tells them from the bottom up.
def entry_stretches(i, n):
    start = 0
    stop = n
    stretches = []
    while stop - start > 1:
        middle = middle_of(start, stop)
        if i < middle:
            stretches.append((middle, stop))
            stop = middle
        else:
            stretches.append((start, middle))
            start = middle
    stretches.reverse()
    return stretches


# The stretches whose roots are the proof that the log of n has grown from its first a.
def growth_stretches(a, n):
    start = 0
    stop = n
    stretches = []
    while a < stop:
        middle = middle_of(start, stop)
        if a <= middle:
            stretches.append((middle, stop))
            stop = middle
        else:
            stretches.append((start, middle))
            start = middle
    # From 0 on, these are the first a: who checks the proof has their root.
    if start > 0:
        stretches.append((start, stop))
    stretches.reverse()
    return stretches


def middle_of(start, stop):
    return start + greatest_power_below(stop - start)


def greatest_power_below(n):
    power = 1
    while 2 * power < n:
        power = 2 * power
    return power

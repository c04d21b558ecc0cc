"""The tree of digests over a log's entries: its roots and its proofs."""

from growlog.sha256 import digest_of


def leaf_digest(entry):
    return digest_of([0] + entry)


def node_digest(left, right):
    return digest_of([1] + left + right)


def greatest_power_below(n):
    power = 1
    while 2 * power < n:
        power = 2 * power
    return power


# A stretch is the entries from start up to, but not with, stop.
class Tree:
    def __init__(self):
        self.leaves = []
        # Entries are only added, so a root that is known once stays right.
        self.known = {}

    def grow(self, entry):
        self.leaves.append(leaf_digest(entry))

    def stretch_root(self, start, stop):
        if start == stop:
            return digest_of([])
        if stop - start == 1:
            return self.leaves[start]
        if (start, stop) not in self.known:
            middle = middle_of(start, stop)
            left = self.stretch_root(start, middle)
            right = self.stretch_root(middle, stop)
            self.known[(start, stop)] = node_digest(left, right)
        return self.known[(start, stop)]

    # Proofs are gathered on the way down, and told from the bottom up.
    def proof_of_entry(self, i, n):
        start = 0
        stop = n
        digests = []
        while stop - start > 1:
            middle = middle_of(start, stop)
            if i < middle:
                digests.append(self.stretch_root(middle, stop))
                stop = middle
            else:
                digests.append(self.stretch_root(start, middle))
                start = middle
        digests.reverse()
        return digests

    def proof_of_growth(self, a, n):
        start = 0
        stop = n
        digests = []
        while a < stop:
            middle = middle_of(start, stop)
            if a <= middle:
                digests.append(self.stretch_root(middle, stop))
                stop = middle
            else:
                digests.append(self.stretch_root(start, middle))
                start = middle
        # From 0 on, these are the first a: who checks the proof has their root.
        if start > 0:
            digests.append(self.stretch_root(start, stop))
        digests.reverse()
        return digests


def middle_of(start, stop):
    return start + greatest_power_below(stop - start)

"""What the tests share: how calls are written down, and the document's own words over hashlib."""

import hashlib
import unittest

BEGIN = [0]
SIZE = [2]
GREATEST = 4294967295
# The greatest i, a and n that holds and grew are handed.
WIDEST = 18446744073709551615


def add(entry):
    return [1, len(entry)] + list(entry)


def root(n):
    return [3, n]


def path(i, n):
    return [4, i, n]


def grown(a, n):
    return [5, a, n]


def joined(rows):
    return [number for row in rows for number in row]


def told(replies):
    """What answers gives back where the calls, in order, answer these rows of numbers."""
    return joined([len(reply)] + list(reply) for reply in replies)


def counted(digests):
    return [len(digests)] + joined(digests)


def from_hex(text):
    return list(bytes.fromhex(text))


def sha256(numbers):
    return list(hashlib.sha256(bytes(numbers)).digest())


def split(count):
    """The greatest power of two below count."""
    return max(power for power in (2 ** k for k in range(64)) if power < count)


def true_root(entries):
    if not entries:
        return sha256([])
    if len(entries) == 1:
        return sha256([0] + list(entries[0]))
    h = split(len(entries))
    return sha256([1] + true_root(entries[:h]) + true_root(entries[h:]))


def true_path(i, entries):
    if len(entries) == 1:
        return []
    h = split(len(entries))
    if i < h:
        return true_path(i, entries[:h]) + [true_root(entries[h:])]
    return true_path(i - h, entries[h:]) + [true_root(entries[:h])]


def true_grown(a, entries, from_start=True):
    if a == len(entries):
        return [] if from_start else [true_root(entries)]
    h = split(len(entries))
    if a <= h:
        return true_grown(a, entries[:h], from_start) + [true_root(entries[h:])]
    return true_grown(a - h, entries[h:], False) + [true_root(entries[:h])]


def node(left, right):
    """The digest over two roots; None, which stands for no root at all, leads to None."""
    return None if left is None or right is None else sha256([1] + left + right)


def reached_from_entry(i, n, entry, digests):
    """The root that the digests lead to from entry i of n; None where they are too few or too many."""
    if n == 1:
        return None if digests else sha256([0] + list(entry))
    if not digests:
        return None
    h = split(n)
    if i < h:
        return node(reached_from_entry(i, h, entry, digests[:-1]), digests[-1])
    return node(digests[-1], reached_from_entry(i - h, n - h, entry, digests[:-1]))


def true_holds(i, n, entry, digests, root):
    if len(entry) > 65536 or len(digests) > 64:
        return [-1]
    return [1 if i < n and reached_from_entry(i, n, entry, digests) == root else 0]


def reached_from_first(a, n, old_root, digests, from_start=True):
    """The old and the new root that the digests lead to; None where they are too few or too many."""
    if a == n:
        if len(digests) != (0 if from_start else 1):
            return None
        return (old_root, old_root) if from_start else (digests[0], digests[0])
    if not digests:
        return None
    h = split(n)
    if a <= h:
        reached = reached_from_first(a, h, old_root, digests[:-1], from_start)
        return reached and (reached[0], node(reached[1], digests[-1]))
    reached = reached_from_first(a - h, n - h, old_root, digests[:-1], False)
    return reached and (node(digests[-1], reached[0]), node(digests[-1], reached[1]))


def true_grew(a, n, old_root, new_root, digests):
    if len(digests) > 64:
        return [-1]
    return [1 if 1 <= a <= n and reached_from_first(a, n, old_root, digests) == (old_root, new_root) else 0]


def entry_of(k, length=None):
    """The entry of a test log; where no length is told, one from 0 to 10."""
    return [(37 * k + 11 * place + 5) % 256 for place in range(k % 11 if length is None else length)]


def log_of(count):
    return [entry_of(k) for k in range(count)]


def digests_in(numbers):
    return [numbers[k:k + 32] for k in range(0, len(numbers), 32)]


def digests_like(count, seed=0):
    return [sha256([seed, k]) for k in range(count)]


def with_one_changed(numbers, place):
    return numbers[:place] + [numbers[place] ^ 1] + numbers[place + 1:]


def rows_of(numbers, start):
    """The replies in what answers gave back, from the start-th call on."""
    replies = []
    while numbers:
        replies.append(numbers[1:1 + numbers[0]])
        numbers = numbers[1 + numbers[0]:]
    return replies[start:]


def reply(entries, call):
    """What one call answers on a log of these entries, which it changes as the call says."""
    if call[0] == 0:
        entries.clear()
        return [0]
    if call[0] == 1:
        entries.append(call[2:])
        return [len(entries) - 1]
    if call[0] == 2:
        return [len(entries)]
    n = call[-1]
    if n > len(entries):
        return [-2]
    if call[0] == 3:
        return [0] + true_root(entries[:n])
    if call[0] == 4:
        return counted(true_path(call[1], entries[:n])) if call[1] < n else [-2]
    return counted(true_grown(call[1], entries[:n])) if 1 <= call[1] <= n else [-2]


def true_answers(calls):
    entries = []
    return told([reply(entries, call) for call in calls])


class ListCase(unittest.TestCase):
    def same(self, given, wanted):
        """assertEqual would take minutes to write out how two long lists differ."""
        if given != wanted:
            places = [k for k, pair in enumerate(zip(given, wanted)) if pair[0] != pair[1]]
            k = places[0] if places else min(len(given), len(wanted))
            self.fail(
                f"{len(given)} numbers given, {len(wanted)} wanted; "
                f"from place {k} on, given {given[k:k + 5]}.., wanted {wanted[k:k + 5]}.."
            )


class Unchangeable(list):
    """A list that fails at any try to change it, even if it is changed back."""

    def refuse(self, *args, **kwargs):
        raise AssertionError("the list handed in was changed")

    append = clear = extend = insert = pop = remove = reverse = sort = refuse
    __setitem__ = __delitem__ = __iadd__ = __imul__ = refuse

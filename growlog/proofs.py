"""The digest by itself, and the checking of proofs."""

from growlog.bounds import MOST_BYTES, TOO_LONG
from growlog.sha256 import digest_of
from growlog.tree import entry_stretches, growth_stretches, leaf_digest, node_digest

DIGEST_BYTES = 32
MOST_DIGESTS = 64


def digest(m):
    if len(m) > MOST_BYTES:
        return [TOO_LONG]
    return [0] + digest_of(m)


def holds(i, n, entry, proof, root):
    # The document puts -1 ahead of 0, so the lengths are asked first.
    if len(entry) > MOST_BYTES or has_too_many(proof):
        return [TOO_LONG]
    if i >= n:
        return [0]
    stretches = entry_stretches(i, n)
    digests = digests_in(proof)
    if len(digests) != len(stretches):
        return [0]
    if root_from_entry(i, entry, stretches, digests) == root:
        return [1]
    return [0]


def grew(a, n, old_root, new_root, proof):
    if has_too_many(proof):
        return [TOO_LONG]
    if a == 0 or a > n:
        return [0]
    stretches = growth_stretches(a, n)
    digests = digests_in(proof)
    if len(digests) != len(stretches):
        return [0]
    if both_roots(a, old_root, stretches, digests) == [old_root, new_root]:
        return [1]
    return [0]


def root_from_entry(i, entry, stretches, digests):
    reached = leaf_digest(entry)
    for stretch, beside in zip(stretches, digests):
        if stretch[0] > i:
            reached = node_digest(reached, beside)
        else:
            reached = node_digest(beside, reached)
    return reached


def both_roots(a, old_root, stretches, digests):
    old = old_root
    new = old_root
    for stretch, beside in zip(stretches, digests):
        if stretch[1] == a:
            # The proof begins from a root of its own here: the old one is yet to be reached.
            old = beside
            new = beside
        elif stretch[0] >= a:
            # What came behind the first a is no part of the old root.
            new = node_digest(new, beside)
        else:
            old = node_digest(beside, old)
            new = node_digest(beside, new)
    return [old, new]


def has_too_many(proof):
    return len(proof) > MOST_DIGESTS * DIGEST_BYTES


def digests_in(proof):
    return [proof[k:k + DIGEST_BYTES] for k in range(0, len(proof), DIGEST_BYTES)]

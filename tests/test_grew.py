"""growlog.proofs.grew."""

import random
import unittest

from growlog.log import answers
from growlog.proofs import grew
from reference import (
    ListCase, Unchangeable, WIDEST, add, digests_in, digests_like, entry_of, grown, joined, node, reached_from_first,
    root, rows_of, sha256, true_grew, true_root, with_one_changed,
)


def log_of(count):
    """Entries that all differ."""
    return [[k] + entry_of(k) for k in range(count)]


def given_samples(count):
    """By answers: for each a from 1 to count, what shows that the log of count has grown from its first a."""
    sizes = range(1, count + 1)
    calls = [add(entry) for entry in log_of(count)] + [root(a) for a in sizes] + [grown(a, count) for a in sizes]
    replies = rows_of(answers(joined(calls)), count)
    roots = [reply[1:] for reply in replies[:count]]
    proofs = [digests_in(reply[1:]) for reply in replies[count:]]
    return [(a, count, roots[a - 1], roots[count - 1], proofs[a - 1]) for a in sizes]


def is_power(a):
    return a & (a - 1) == 0


class GrewCase(ListCase):
    def check(self, a, n, old, new, digests, answer):
        self.assertEqual(grew(a, n, list(old), list(new), joined(digests)), [answer])

    def check_against_words(self, a, n, old, new, digests):
        wanted = true_grew(a, n, old, new, digests)
        self.assertEqual(grew(a, n, list(old), list(new), joined(digests)), wanted)
        return wanted[0]


class SmallLogsTest(GrewCase):
    COUNTS = (1, 2, 3, 4, 5, 6, 7, 8, 9, 13)

    @classmethod
    def setUpClass(cls):
        cls.samples = [sample for count in cls.COUNTS for sample in given_samples(count)]

    def test_grown_from_every_first(self):
        for sample in self.samples:
            self.check(*sample, 1)

    def test_greater_logs(self):
        for count in (15, 16, 17, 31, 32, 33, 64, 65):
            samples = given_samples(count)
            for a in sorted({1, 2, 3, count // 2, count // 2 + 1, count - 1, count}):
                self.check(*samples[a - 1], 1)

    def test_three_and_four_entries_written_out(self):
        leaves = [sha256([0, k]) for k in (1, 2, 3, 4)]
        two = node(leaves[0], leaves[1])
        others = node(leaves[2], leaves[3])
        three = node(two, leaves[2])
        four = node(two, others)
        self.check(1, 4, leaves[0], four, [leaves[1], others], 1)
        self.check(2, 4, two, four, [others], 1)
        self.check(3, 4, three, four, [leaves[2], leaves[3], two], 1)
        self.check(2, 3, two, three, [leaves[2]], 1)
        self.check(3, 4, three, four, [leaves[3], leaves[2], two], 0)
        self.check(3, 4, two, four, [leaves[2], leaves[3], two], 0)

    def test_each_byte_of_the_old_root_counts(self):
        for a, n, old, new, digests in self.samples:
            for place in range(0, 32, 1 if n in (3, 7) else 31):
                self.check(a, n, with_one_changed(old, place), new, digests, 0)

    def test_each_byte_of_the_new_root_counts(self):
        for a, n, old, new, digests in self.samples:
            for place in range(0, 32, 1 if n in (3, 7) else 31):
                self.check(a, n, old, with_one_changed(new, place), digests, 0)

    def test_one_byte_of_the_proof_changed(self):
        for a, n, old, new, digests in self.samples:
            for place in range(0, 32 * len(digests), 7):
                self.check(a, n, old, new, digests_in(with_one_changed(joined(digests), place)), 0)

    def test_roots_taken_for_one_another(self):
        for a, n, old, new, digests in self.samples:
            if a < n:
                self.check(a, n, new, old, digests, 0)
                self.check(a, n, old, old, digests, 0)
                self.check(a, n, new, new, digests, 0)

    def test_only_one_root_is_reached(self):
        # Where a is no power of two, each root is led to by the digests alone.
        for a, n in ((3, 4), (3, 5), (5, 7), (6, 8), (7, 9)):
            old, new, digests = given_samples(n)[a - 1][2:]
            self.check(a, n, old, [0] * 32, digests, 0)
            self.check(a, n, [0] * 32, new, digests, 0)
            self.check(a, n, old, new, digests, 1)

    def test_a_digest_too_few(self):
        for a, n, old, new, digests in self.samples:
            for left_out in range(len(digests)):
                self.check(a, n, old, new, digests[:left_out] + digests[left_out + 1:], 0)
            if digests:
                self.check(a, n, old, new, [], 0)

    def test_a_digest_too_many(self):
        for a, n, old, new, digests in self.samples:
            for more in ([0] * 32, old, new):
                self.check(a, n, old, new, [more] + digests, 0)
                self.check(a, n, old, new, digests + [more], 0)

    def test_the_old_root_is_not_told_again(self):
        # Other ways of proving begin with it where a is a power of two.
        for a, n, old, new, digests in self.samples:
            if is_power(a):
                self.check(a, n, old, new, [old] + digests, 0)

    def test_digests_in_another_order(self):
        for a, n, old, new, digests in self.samples:
            if len(digests) > 1:
                self.check(a, n, old, new, digests[::-1], 0)
                self.check(a, n, old, new, digests[1:] + digests[:1], 0)

    def test_another_a(self):
        answered = set()
        for a, n, old, new, digests in self.samples:
            for other in range(n + 3):
                if other != a:
                    answered.add(self.check_against_words(other, n, old, new, digests))
        self.assertIn(0, answered)

    def test_another_n(self):
        # The same digests may lead to the same roots in logs of two sizes.
        answered = set()
        for a, n, old, new, digests in self.samples:
            for other in range(20):
                if other != n:
                    answered.add(self.check_against_words(a, other, old, new, digests))
        self.assertEqual(answered, {0, 1})

    def test_a_log_that_was_changed(self):
        entries = log_of(7)
        new = true_root(entries)
        for a, n, old, whole, digests in given_samples(7):
            self.assertEqual(whole, new)
            for k in range(a):
                changed = [with_one_changed(entry, 0) if place == k else entry for place, entry in enumerate(entries)]
                self.check(a, n, true_root(changed[:a]), new, digests, 0)
                self.check(a, n, old, true_root(changed), digests, 0)


class EdgesTest(GrewCase):
    def test_a_is_0(self):
        for n in (0, 1, 2, 3, 8, WIDEST):
            for count in (0, 1, 2, 3, 64):
                self.check(0, n, sha256([]), sha256([]), digests_like(count), 0)
                self.check(0, n, sha256([]), sha256([0]), digests_like(count), 0)

    def test_a_is_above_n(self):
        for a, n in ((1, 0), (2, 1), (3, 2), (4, 3), (9, 8), (WIDEST, 0), (WIDEST, 1), (WIDEST, WIDEST - 1)):
            for count in (0, 1, 2, 64):
                self.check(a, n, sha256([0]), sha256([0]), digests_like(count), 0)

    def test_a_just_above_a_proof_that_holds(self):
        for n in (1, 2, 3, 4, 5, 8):
            for a, count, old, new, digests in given_samples(n):
                for above in (n + 1, n + 2, 2 * n, WIDEST):
                    if above > n:
                        self.check(above, n, old, new, digests, 0)
                        self.check(above, n, new, new, [], 0)

    def test_a_is_n(self):
        for n in (1, 2, 3, 4, 7, 8, 2 ** 32, 2 ** 63, WIDEST - 1, WIDEST):
            one, other = sha256([1]), sha256([2])
            self.check(n, n, one, one, [], 1)
            self.check(n, n, one, other, [], 0)
            self.check(n, n, one, with_one_changed(one, 31), [], 0)
            self.check(n, n, one, one, [one], 0)
            self.check(n, n, one, other, [other], 0)
            self.check(n, n, one, one, digests_like(64), 0)

    def test_a_is_a_power_of_two(self):
        # The proof begins from the old root, whatever that is, and needs no digest for it.
        for a, n, count in ((1, 2, 1), (1, 3, 2), (2, 3, 1), (4, 5, 1), (4, 7, 1), (4, 8, 1), (4, 9, 2), (8, 16, 1)):
            old = sha256([7])
            digests = digests_like(count)
            new = old
            for digest in digests:
                new = node(new, digest)
            self.check(a, n, old, new, digests, 1)
            self.check(a, n, old, new, digests[1:], 0)
            self.check(a, n, old, new, digests + [new], 0)

    def test_a_is_no_power_of_two(self):
        # The proof begins from its own first digest.
        first, second, third = digests_like(3)
        old = node(third, first)
        new = node(third, node(first, second))
        self.check(3, 4, old, new, [first, second, third], 1)
        self.check(6, 8, old, new, [first, second, third], 1)
        self.check(3, 4, old, new, [second, third], 0)
        self.check(3, 4, old, new, [old, first, second, third], 0)
        self.check(3, 4, first, new, [first, second, third], 0)


class WideTest(GrewCase):
    PLACES = [
        (1, WIDEST), (2, WIDEST), (6, WIDEST), (WIDEST - 1, WIDEST), (WIDEST - 3, WIDEST), (2 ** 63, WIDEST),
        (2 ** 63 - 2, WIDEST), (2 ** 63, 2 ** 63 + 1), (2 ** 63 - 1, 2 ** 63), (2 ** 63 - 2, 2 ** 63 + 1),
        (1, 2 ** 63), (3, 2 ** 63), (2 ** 62 + 1, 2 ** 63), (2 ** 63 + 2 ** 62, WIDEST), (4294967295, 4294967296),
        (4294967296, 4294967297), (4294967295, 4294967297), (12345678901234567890, 17000000000000000000),
    ]
    # Proofs that the document's own bound of 64 digests shuts out.
    TOO_DEEP = [
        (3, WIDEST), (WIDEST - 2, WIDEST), (2 ** 63 - 1, WIDEST), (2 ** 63 + 1, WIDEST), (2 ** 63 - 1, 2 ** 63 + 1),
    ]

    def needed(self, a, n):
        count = 0
        from_start = True
        while a != n:
            h = 2 ** ((n - 1).bit_length() - 1)
            from_start = from_start and a <= h
            a, n = (a, h) if a <= h else (a - h, n - h)
            count += 1
        return count if from_start else count + 1

    def sample(self, a, n, seed=0):
        """Digests as many as are needed, and the roots that they lead to."""
        digests = digests_like(self.needed(a, n), seed)
        old, new = reached_from_first(a, n, sha256([7]), digests)
        return old, new, digests

    def test_the_right_number_of_digests(self):
        for a, n in self.PLACES:
            old, new, digests = self.sample(a, n)
            self.assertLessEqual(len(digests), 64)
            self.check(a, n, old, new, digests, 1)
            self.check(a, n, with_one_changed(old, 0), new, digests, 0)
            self.check(a, n, old, with_one_changed(new, 31), digests, 0)
            self.check(a, n, old, new, digests[1:], 0)
            self.check(a, n, old, new, digests[:-1], 0)
            self.check(a, n, old, new, [], 0)
            if len(digests) < 64:
                self.check(a, n, old, new, digests + [new], 0)
                self.check(a, n, old, new, [old] + digests, 0)
            for place in (0, 32 * len(digests) - 1):
                self.check(a, n, old, new, digests_in(with_one_changed(joined(digests), place)), 0)

    def test_64_digests(self):
        self.assertEqual(self.needed(1, WIDEST), 64)
        self.assertEqual(self.needed(WIDEST - 1, WIDEST), 64)
        for a in (1, WIDEST - 1):
            old, new, digests = self.sample(a, WIDEST)
            self.check(a, WIDEST, old, new, digests, 1)

    def test_a_proof_that_needs_65_digests_is_refused(self):
        for a, n in self.TOO_DEEP:
            self.assertEqual(self.needed(a, n), 65)
            old, new, digests = self.sample(a, n)
            self.check(a, n, old, new, digests, -1)
            self.check(a, n, old, new, digests[:-1], 0)
            self.check(a, n, old, new, digests[1:], 0)

    def test_any_places(self):
        chance = random.Random(64)
        for turn in range(60):
            n = chance.randrange(1, 2 ** chance.randrange(1, 65))
            a = chance.randrange(1, n + 1)
            old, new, digests = self.sample(a, n, turn)
            self.check(a, n, old, new, digests, 1 if len(digests) <= 64 else -1)
            self.check_against_words(chance.randrange(n + 1), n, old, new, digests)
            self.check_against_words(a, chance.randrange(2 ** 64), old, new, digests)


class RefusalTest(GrewCase):
    def test_more_than_64_digests(self):
        for count in (65, 66, 70):
            self.check(1, WIDEST, [1] * 32, [2] * 32, digests_like(count), -1)
            self.check(3, 3, [1] * 32, [1] * 32, digests_like(count), -1)

    def test_64_digests_are_not_refused(self):
        for a, n in ((1, 1), (1, 2), (1, WIDEST), (0, 0), (0, 5), (5, 4)):
            self.check(a, n, [1] * 32, [2] * 32, digests_like(64), 0)

    def test_refusal_comes_before_0(self):
        for a, n in ((0, 0), (0, 1), (0, WIDEST), (2, 1), (WIDEST, 0), (WIDEST, WIDEST), (3, 8)):
            for count in (65, 70):
                self.check(a, n, [1] * 32, [2] * 32, digests_like(count), -1)


class InterfaceTest(GrewCase):
    def samples(self):
        five = [sample[:4] + (joined(sample[4]),) for sample in given_samples(5)]
        a, n, old, new, proof = five[2]
        return five + [
            (a, n, new, old, proof), (a, n, old, new, proof[32:]), (0, n, old, new, proof), (6, n, old, new, proof),
            (a, n, old, new, [0] * 2240),
        ]

    def test_lists_handed_in_are_never_changed(self):
        for a, n, old, new, proof in self.samples():
            handed = [Unchangeable(old), Unchangeable(new), Unchangeable(proof)]
            grew(a, n, handed[0], handed[1], handed[2])
            for given, kept in zip(handed, (old, new, proof)):
                self.same(list(given), kept)

    def test_second_time_is_as_the_first(self):
        samples = self.samples()
        first = [grew(*sample) for sample in samples]
        self.assertEqual(first, [[1]] * 5 + [[0]] * 4 + [[-1]])
        self.assertEqual([grew(*sample) for sample in samples], first)
        self.assertEqual([grew(*sample) for sample in reversed(samples)], first[::-1])

    def test_what_is_given_back_is_the_callers_own(self):
        for sample in self.samples():
            given = grew(*sample)
            kept = list(given)
            given.append(99)
            self.assertEqual(grew(*sample), kept)

    def test_one_list_handed_in_twice(self):
        one = sha256([5])
        self.assertEqual(grew(3, 3, one, one, []), [1])
        self.assertEqual(grew(1, 2, one, one, one), [0])
        self.assertEqual(one, sha256([5]))

    def test_a_list_of_one_whole_number_is_given_back(self):
        for sample in self.samples():
            given = grew(*sample)
            self.assertIs(type(given), list)
            self.assertEqual([type(number) for number in given], [int])

    def test_names_of_the_arguments(self):
        one = sha256([5])
        self.assertEqual(grew(a=3, n=3, old_root=one, new_root=one, proof=[]), [1])


if __name__ == "__main__":
    unittest.main()

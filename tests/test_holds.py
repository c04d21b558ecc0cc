"""growlog.proofs.holds."""

import random
import unittest

from growlog.log import answers
from growlog.proofs import holds
from reference import (
    ListCase, Unchangeable, WIDEST, add, digests_in, digests_like, entry_of, joined, path, reached_from_entry, root,
    rows_of, sha256, true_holds, true_root, with_one_changed,
)


def log_of(count):
    """Entries that all differ, so that no proof of one is a proof of another too."""
    return [[k] + entry_of(k) for k in range(count)]


def given_proofs(entries):
    """By answers: the root of all, and the proof's digests for each entry."""
    count = len(entries)
    calls = [add(entry) for entry in entries] + [root(count)] + [path(i, count) for i in range(count)]
    replies = rows_of(answers(joined(calls)), count)
    return replies[0][1:], [digests_in(reply[1:]) for reply in replies[1:]]


class HoldsCase(ListCase):
    def check(self, i, n, entry, digests, wanted_root, answer):
        self.assertEqual(holds(i, n, list(entry), joined(digests), list(wanted_root)), [answer])

    def check_against_words(self, i, n, entry, digests, wanted_root):
        wanted = true_holds(i, n, entry, digests, wanted_root)
        self.assertEqual(holds(i, n, list(entry), joined(digests), list(wanted_root)), wanted)
        return wanted[0]


class SmallLogsTest(HoldsCase):
    COUNTS = (1, 2, 3, 4, 5, 6, 7, 8, 9, 13)

    @classmethod
    def setUpClass(cls):
        cls.samples = []
        for count in cls.COUNTS:
            entries = log_of(count)
            whole, proofs = given_proofs(entries)
            cls.samples += [(i, count, entries[i], proofs[i], whole) for i in range(count)]

    def test_every_entry_is_in(self):
        for i, n, entry, digests, whole in self.samples:
            self.check(i, n, entry, digests, whole, 1)

    def test_greater_logs(self):
        for count in (15, 16, 17, 31, 32, 33, 64, 65):
            entries = log_of(count)
            whole, proofs = given_proofs(entries)
            for i in sorted({0, 1, count // 2 - 1, count // 2, count - 2, count - 1}):
                self.check(i, count, entries[i], proofs[i], whole, 1)

    def test_another_entry(self):
        for i, n, entry, digests, whole in self.samples:
            changed = [with_one_changed(entry, place) for place in range(len(entry))]
            for other in [[], entry[:-1], entry + [0], [0] + entry] + changed:
                self.check(i, n, other, digests, whole, 0)

    def test_each_byte_of_the_entry_counts(self):
        i, n, digests = 2, 5, digests_like(3)
        entry = entry_of(3, 130)
        whole = reached_from_entry(i, n, entry, digests)
        self.check(i, n, entry, digests, whole, 1)
        for place in range(130):
            self.check(i, n, with_one_changed(entry, place), digests, whole, 0)

    def test_one_byte_of_the_proof_changed(self):
        for i, n, entry, digests, whole in self.samples:
            for place in range(0, 32 * len(digests), 5):
                changed = digests_in(with_one_changed(joined(digests), place))
                self.check(i, n, entry, changed, whole, 0)

    def test_each_byte_of_the_root_counts(self):
        for i, n, entry, digests, whole in self.samples[::6]:
            for place in range(32):
                self.check(i, n, entry, digests, with_one_changed(whole, place), 0)

    def test_roots_that_are_not_its_own(self):
        for i, n, entry, digests, whole in self.samples:
            for other in ([0] * 32, [255] * 32, sha256([]), list(reversed(whole))):
                self.check(i, n, entry, digests, other, 0)

    def test_a_digest_too_few(self):
        for i, n, entry, digests, whole in self.samples:
            for left_out in range(len(digests)):
                self.check(i, n, entry, digests[:left_out] + digests[left_out + 1:], whole, 0)
            if digests:
                self.check(i, n, entry, [], whole, 0)

    def test_a_digest_too_many(self):
        for i, n, entry, digests, whole in self.samples:
            for more in ([0] * 32, whole, sha256([0] + entry)):
                self.check(i, n, entry, [more] + digests, whole, 0)
                self.check(i, n, entry, digests + [more], whole, 0)

    def test_a_digest_too_few_or_many_that_would_lead_to_the_root(self):
        # The digests are right for a log of another size, so each step but the count comes out.
        for i, n, m in ((0, 4, 2), (0, 4, 8), (0, 4, 9), (1, 2, 3), (1, 2, 4), (3, 4, 5), (0, 1, 2), (0, 2, 1)):
            digests = digests_like(len(given_proofs(log_of(n))[1][i]))
            whole = reached_from_entry(i, n, [7], digests)
            self.check(i, n, [7], digests, whole, 1)
            self.check(i, m, [7], digests, whole, 0)

    def test_digests_in_another_order(self):
        for i, n, entry, digests, whole in self.samples:
            if len(digests) > 1:
                self.check(i, n, entry, digests[::-1], whole, 0)
                self.check(i, n, entry, digests[1:] + digests[:1], whole, 0)

    def test_another_i(self):
        answered = set()
        for i, n, entry, digests, whole in self.samples:
            for other in range(n + 3):
                if other != i:
                    answered.add(self.check_against_words(other, n, entry, digests, whole))
        self.assertEqual(answered, {0})

    def test_another_n(self):
        # An entry's digests may be the same, and on the same sides, in logs of two sizes.
        answered = set()
        for i, n, entry, digests, whole in self.samples:
            for other in range(20):
                if other != n:
                    answered.add(self.check_against_words(i, other, entry, digests, whole))
        self.assertEqual(answered, {0, 1})

    def test_proof_and_root_of_a_lesser_n(self):
        entries = log_of(6)
        calls = [add(entry) for entry in entries] + [root(5), path(3, 5)]
        replies = rows_of(answers(joined(calls)), 6)
        self.check(3, 5, entries[3], digests_in(replies[1][1:]), replies[0][1:], 1)
        self.check(3, 5, entries[3], digests_in(replies[1][1:]), true_root(entries), 0)

    def test_equal_entries(self):
        # With all entries alike each proof of a full log fits every place.
        whole, proofs = given_proofs([[7]] * 4)
        for i in range(4):
            for j in range(4):
                self.check(i, 4, [7], proofs[j], whole, 1)


class EdgesTest(HoldsCase):
    def test_i_is_not_below_n(self):
        for i, n in ((0, 0), (1, 1), (2, 1), (3, 3), (4, 3), (8, 8), (WIDEST, 0), (WIDEST, WIDEST), (WIDEST, 5)):
            for count in (0, 1, 2, 3, 64):
                self.check(i, n, [5], digests_like(count), sha256([0, 5]), 0)

    def test_i_just_beyond_a_proof_that_holds(self):
        for n in (1, 2, 3, 4, 5, 8):
            entries = log_of(n)
            whole, proofs = given_proofs(entries)
            for beyond in (n, n + 1, 2 * n, n + 8, WIDEST):
                self.check(beyond, n, entries[n - 1], proofs[n - 1], whole, 0)

    def test_no_entries(self):
        for i in (0, 1, WIDEST):
            self.check(i, 0, [], [], sha256([]), 0)
            self.check(i, 0, [], [], sha256([0]), 0)

    def test_one_entry_needs_no_digest(self):
        self.check(0, 1, [5], [], sha256([0, 5]), 1)
        self.check(0, 1, [5], [], sha256([0, 6]), 0)
        self.check(0, 1, [5], [], sha256([5]), 0)
        self.check(0, 1, [5], [sha256([0, 5])], sha256([0, 5]), 0)

    def test_empty_entry(self):
        self.check(0, 1, [], [], sha256([0]), 1)
        self.check(0, 1, [], [], sha256([]), 0)
        entries = [[], [1], []]
        whole, proofs = given_proofs(entries)
        for i in range(3):
            self.check(i, 3, entries[i], proofs[i], whole, 1)
        self.check(1, 3, [], proofs[1], whole, 0)

    def test_longest_entry(self):
        for entry in ([255] * 65536, entry_of(9, 65536)):
            digests = digests_like(2)
            whole = reached_from_entry(1, 3, entry, digests)
            self.check(1, 3, entry, digests, whole, 1)
            self.check(1, 3, with_one_changed(entry, 65535), digests, whole, 0)
        self.check(0, 1, [3] * 65536, [], sha256([0] + [3] * 65536), 1)

    def test_an_inner_node_is_no_entry(self):
        entries = log_of(4)
        whole, proofs = given_proofs(entries)
        node = [1] + sha256([0] + entries[0]) + sha256([0] + entries[1])
        self.check(0, 2, node, proofs[0][1:], whole, 0)
        self.check(0, 2, node[1:], proofs[0][1:], whole, 0)


class WideTest(HoldsCase):
    PLACES = [
        (0, WIDEST), (WIDEST - 1, WIDEST), (WIDEST // 2, WIDEST), (WIDEST // 2 + 1, WIDEST), (1, WIDEST),
        (WIDEST - 2, WIDEST), (WIDEST - 2, WIDEST - 1), (0, 2 ** 63), (2 ** 63 - 1, 2 ** 63), (0, 2 ** 63 + 1),
        (2 ** 63, 2 ** 63 + 1), (2 ** 63 - 1, 2 ** 63 + 1), (2 ** 62, 2 ** 63 - 1), (4294967295, 4294967296),
        (4294967296, 4294967297), (0, 4294967297), (12345678901234567890, 17000000000000000000),
    ]

    def needed(self, i, n):
        count = 0
        while n > 1:
            h = 2 ** ((n - 1).bit_length() - 1)
            i, n = (i, h) if i < h else (i - h, n - h)
            count += 1
        return count

    def test_the_right_number_of_digests(self):
        for i, n in self.PLACES:
            digests = digests_like(self.needed(i, n))
            whole = reached_from_entry(i, n, [1, 2], digests)
            self.check(i, n, [1, 2], digests, whole, 1)
            self.check(i, n, [1, 3], digests, whole, 0)
            self.check(i, n, [1, 2], digests[1:], whole, 0)
            self.check(i, n, [1, 2], digests[:-1], whole, 0)
            self.check(i, n, [1, 2], [], whole, 0)
            if len(digests) < 64:
                self.check(i, n, [1, 2], digests + [whole], whole, 0)
            for place in (0, 32 * len(digests) - 1):
                self.check(i, n, [1, 2], digests_in(with_one_changed(joined(digests), place)), whole, 0)

    def test_the_greatest_log_needs_64_digests(self):
        self.assertEqual(self.needed(0, WIDEST), 64)
        digests = digests_like(64)
        whole = sha256([0, 9])
        for digest in digests:
            whole = sha256([1] + whole + digest)
        self.check(0, WIDEST, [9], digests, whole, 1)

    def test_last_of_a_power_of_two_and_one_needs_one(self):
        beside = sha256([77])
        self.check(2 ** 63, 2 ** 63 + 1, [9], [beside], sha256([1] + beside + sha256([0, 9])), 1)
        self.check(2 ** 63, 2 ** 63 + 1, [9], [beside], sha256([1] + sha256([0, 9]) + beside), 0)

    def test_any_places(self):
        chance = random.Random(64)
        for turn in range(40):
            n = chance.randrange(1, 2 ** chance.randrange(1, 65))
            i = chance.randrange(n)
            digests = digests_like(self.needed(i, n), turn)
            whole = reached_from_entry(i, n, [turn], digests)
            self.check(i, n, [turn], digests, whole, 1)
            self.check_against_words(chance.randrange(n), n, [turn], digests, whole)
            self.check_against_words(i, chance.randrange(2 ** 64), [turn], digests, whole)


class RefusalTest(HoldsCase):
    def test_entry_of_more_than_65536_bytes(self):
        for length in (65537, 66000):
            entry = [7] * length
            self.check(0, 1, entry, [], sha256([0] + entry), -1)
            self.check(0, 2, entry, digests_like(1), reached_from_entry(0, 2, entry, digests_like(1)), -1)

    def test_more_than_64_digests(self):
        for count in (65, 66, 70):
            self.check(0, WIDEST, [1], digests_like(count), [0] * 32, -1)
            self.check(0, 1, [1], digests_like(count), sha256([0, 1]), -1)

    def test_64_digests_are_not_refused(self):
        for i, n in ((0, 1), (0, WIDEST), (5, 5), (0, 0)):
            self.check(i, n, [1], digests_like(64), [0] * 32, 0)

    def test_refusal_comes_before_0(self):
        for i, n in ((0, 0), (1, 1), (5, 3), (WIDEST, WIDEST), (WIDEST, 0), (0, 8)):
            self.check(i, n, [7] * 65537, [], [0] * 32, -1)
            self.check(i, n, [7] * 66000, digests_like(3), [0] * 32, -1)
            self.check(i, n, [7], digests_like(65), [0] * 32, -1)
            self.check(i, n, [7], digests_like(70), [0] * 32, -1)
            self.check(i, n, [7] * 66000, digests_like(70), [0] * 32, -1)


class InterfaceTest(HoldsCase):
    def samples(self):
        entries = log_of(5)
        whole, proofs = given_proofs(entries)
        return [
            (2, 5, entries[2], joined(proofs[2]), whole),
            (4, 5, entries[4], joined(proofs[4]), whole),
            (1, 5, entries[2], joined(proofs[2]), whole),
            (2, 5, entries[2], joined(proofs[2])[32:], whole),
            (5, 5, entries[2], joined(proofs[2]), whole),
            (2, 5, [1] * 65537, joined(proofs[2]), whole),
            (2, 5, entries[2], [0] * 2240, whole),
            (0, 1, [], [], sha256([0])),
        ]

    def test_lists_handed_in_are_never_changed(self):
        for i, n, entry, proof, whole in self.samples():
            handed = [Unchangeable(entry), Unchangeable(proof), Unchangeable(whole)]
            holds(i, n, handed[0], handed[1], handed[2])
            for given, kept in zip(handed, (entry, proof, whole)):
                self.same(list(given), kept)

    def test_second_time_is_as_the_first(self):
        samples = self.samples()
        first = [holds(*sample) for sample in samples]
        self.assertEqual(first, [[1], [1], [0], [0], [0], [-1], [-1], [1]])
        self.assertEqual([holds(*sample) for sample in samples], first)
        self.assertEqual([holds(*sample) for sample in reversed(samples)], first[::-1])

    def test_what_is_given_back_is_the_callers_own(self):
        for sample in self.samples():
            given = holds(*sample)
            kept = list(given)
            given.append(99)
            self.assertEqual(holds(*sample), kept)

    def test_one_list_handed_in_twice(self):
        one = sha256([0, 5])
        self.assertEqual(holds(0, 2, [5], one, one), [0])
        self.assertEqual(one, sha256([0, 5]))

    def test_a_list_of_one_whole_number_is_given_back(self):
        for sample in self.samples():
            given = holds(*sample)
            self.assertIs(type(given), list)
            self.assertEqual([type(number) for number in given], [int])

    def test_names_of_the_arguments(self):
        self.assertEqual(holds(i=0, n=1, entry=[5], proof=[], root=sha256([0, 5])), [1])


if __name__ == "__main__":
    unittest.main()

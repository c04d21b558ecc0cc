"""The calls root, path and grown, by growlog.log.answers."""

import copy
import random
import unittest

from growlog.log import Log, answers
from reference import (
    BEGIN, GREATEST, SIZE, ListCase, Unchangeable, add, counted, entry_of, from_hex, grown, joined, log_of, path, root,
    sha256, told, true_answers, true_grown, true_path, true_root,
)

# Eight entries that trees of RFC 6962 are often tested with; their digests were written down, not worked out here.
KNOWN_ENTRIES = [from_hex(text) for text in (
    "", "00", "10", "2021", "3031", "40414243", "5051525354555657", "606162636465666768696a6b6c6d6e6f",
)]
KNOWN_ROOTS = [from_hex(text) for text in (
    "e3b0c44298fc1c149afbf4c8996fb92427ae41e4649b934ca495991b7852b855",
    "6e340b9cffb37a989ca544e6bb780a2c78901d3fb33738768511a30617afa01d",
    "fac54203e7cc696cf0dfcb42c92a1d9dbaf70ad9e621f4bd8d98662f00e3c125",
    "aeb6bcfe274b70a14fb067a5e5578264db0fa9b51af5e0ba159158f329e06e77",
    "d37ee418976dd95753c1c73862b9398fa2a2cf9b4ff0fdfe8b30cd95209614b7",
    "4e3bbb1f7b478dcfe71fb631631519a3bca12c9aefca1612bfce4c13a86264d4",
    "76e67dadbcdf1e10e1b74ddc608abd2f98dfb16fbce75277b5232a127f2087ef",
    "ddb89be403809e325750d3d263cd78929c2942b7942a34b77e122c9594a74c8c",
    "5dc9da79a70659a9ad559cb701ded9a2ab9d823aad2f4960cfe370eff4604328",
)]
LEAF_0 = "6e340b9cffb37a989ca544e6bb780a2c78901d3fb33738768511a30617afa01d"
LEAF_1 = "96a296d224f285c67bee93c30f8a309157f0daa35dc5b87e410b78630a09cfc7"
LEAF_4 = "bc1a0643b12e4d2d7c77918f44e0f4f79a838b6cf9ec5b5c283e1f4d88599e6b"
ROOT_0_2 = "fac54203e7cc696cf0dfcb42c92a1d9dbaf70ad9e621f4bd8d98662f00e3c125"
ROOT_2_4 = "5f083f0a1a33ca076a95279832580db3e0ef4584bdff1f54c8a360f50de3031e"
ROOT_0_4 = "d37ee418976dd95753c1c73862b9398fa2a2cf9b4ff0fdfe8b30cd95209614b7"
ROOT_4_6 = "0ebc5d3437fbe2db158b9f126a1d118e308181031d0a949f8dededebc558ef6a"
ROOT_6_8 = "ca854ea128ed050b41b35ffc1b87b8eb2bde461e9e3b5596ece6b9d5975a0ae0"
ROOT_4_8 = "6b47aaf29ee3c2af9af889bc1fb9254dabd31177f16232dd6aab035ca39bf6e4"

# Around the places where a leaf, a byte longer than its entry, fills a block of 64 or its padding does.
LENGTHS = [0, 1, 53, 54, 55, 56, 61, 62, 63, 64, 65, 117, 118, 119, 120, 126, 127, 128, 129, 183, 191, 192, 193]


class CallsCase(ListCase):
    def check(self, entries, calls, replies):
        """Added these entries, the calls answer these replies."""
        self.assertLessEqual(len(entries) + len(calls), 300)
        handed = joined([add(entry) for entry in entries] + calls)
        self.assertLessEqual(len(handed), 31000)
        self.same(answers(handed), told([[k] for k in range(len(entries))] + replies))

    def check_one(self, entries, call, reply):
        self.check(entries, [call], [reply])


class RootTest(CallsCase):
    def test_no_entries(self):
        self.check_one([], root(0), [0] + sha256([]))
        self.check_one(log_of(5), root(0), [0] + sha256([]))
        self.check([], [BEGIN, root(0)], [[0], [0] + sha256([])])

    def test_one_entry(self):
        self.check_one([[7, 8]], root(1), [0] + sha256([0, 7, 8]))
        self.check_one([[7, 8], [9]], root(1), [0] + sha256([0, 7, 8]))

    def test_empty_entry(self):
        self.check_one([[]], root(1), [0] + sha256([0]))
        self.check_one([[], []], root(2), [0] + sha256([1] + sha256([0]) + sha256([0])))

    def test_two_and_three_entries_written_out(self):
        leaves = [sha256([0, 1]), sha256([0, 2]), sha256([0, 3])]
        two = sha256([1] + leaves[0] + leaves[1])
        three = sha256([1] + two + leaves[2])
        self.check_one([[1], [2]], root(2), [0] + two)
        self.check_one([[1], [2], [3]], root(3), [0] + three)
        self.check_one([[1], [2], [3]], root(2), [0] + two)

    def test_known_roots(self):
        calls = [root(n) for n in range(9)]
        self.check(KNOWN_ENTRIES, calls, [[0] + digest for digest in KNOWN_ROOTS])

    def test_logs_of_any_small_size(self):
        for count in range(1, 18):
            entries = log_of(count)
            self.check_one(entries, root(count), [0] + true_root(entries))

    def test_round_powers_of_two(self):
        for count in (31, 32, 33, 63, 64, 65, 127, 128, 129, 255, 256, 257):
            entries = log_of(count)
            self.check_one(entries, root(count), [0] + true_root(entries))

    def test_every_n_of_one_log(self):
        entries = log_of(70)
        for order in (range(71), range(70, -1, -1)):
            self.check(entries, [root(n) for n in order], [[0] + true_root(entries[:n]) for n in order])

    def test_lengths_of_an_entry(self):
        for length in LENGTHS:
            entry = entry_of(length, length)
            self.check_one([entry], root(1), [0] + sha256([0] + entry))

    def test_longest_entry(self):
        for entry in ([255] * 30900, entry_of(3, 30900)):
            self.check_one([entry], root(1), [0] + sha256([0] + entry))
            self.check_one([[4], entry], root(2), [0] + true_root([[4], entry]))

    def test_least_and_greatest_byte(self):
        entries = [[0], [255], [0] * 64, [255] * 64, [0, 255]]
        self.check_one(entries, root(5), [0] + true_root(entries))

    def test_entry_that_looks_like_a_node(self):
        node = [1] + sha256([0]) + sha256([0])
        self.check_one([node], root(1), [0] + sha256([0] + node))

    def test_fewer_entries(self):
        for count in (0, 1, 2, 7, 8):
            for n in (count + 1, count + 2, 2 * count + 1, 8192, 8193, 65536, GREATEST - 1, GREATEST):
                self.check_one(log_of(count), root(n), [-2])


class PathTest(CallsCase):
    def test_one_entry(self):
        self.check_one([[5]], path(0, 1), [0])
        self.check_one([[]], path(0, 1), [0])
        self.check_one([[5], [6]], path(0, 1), [0])

    def test_two_and_three_entries_written_out(self):
        leaves = [sha256([0, 1]), sha256([0, 2]), sha256([0, 3])]
        two = sha256([1] + leaves[0] + leaves[1])
        self.check_one([[1], [2]], path(0, 2), [1] + leaves[1])
        self.check_one([[1], [2]], path(1, 2), [1] + leaves[0])
        self.check_one([[1], [2], [3]], path(0, 3), [2] + leaves[1] + leaves[2])
        self.check_one([[1], [2], [3]], path(1, 3), [2] + leaves[0] + leaves[2])
        self.check_one([[1], [2], [3]], path(2, 3), [1] + two)

    def test_known_proofs(self):
        for i, n, texts in (
            (0, 8, [LEAF_1, ROOT_2_4, ROOT_4_8]),
            (5, 8, [LEAF_4, ROOT_6_8, ROOT_0_4]),
            (2, 3, [ROOT_0_2]),
            (1, 5, [LEAF_0, ROOT_2_4, LEAF_4]),
        ):
            self.check_one(KNOWN_ENTRIES, path(i, n), counted([from_hex(text) for text in texts]))

    def test_every_entry_of_small_logs(self):
        for count in range(1, 18):
            entries = log_of(count)
            calls = [path(i, count) for i in range(count)]
            self.check(entries, calls, [counted(true_path(i, entries)) for i in range(count)])

    def test_every_entry_of_every_n_of_one_log(self):
        entries = log_of(20)
        places = [(i, n) for n in range(1, 21) for i in range(n)]
        calls = [path(i, n) for i, n in places]
        self.check(entries, calls, [counted(true_path(i, entries[:n])) for i, n in places])

    def test_round_powers_of_two(self):
        for count in (31, 32, 33, 63, 64, 65, 127, 128, 129, 255, 256, 257):
            entries = log_of(count)
            places = sorted({0, 1, count // 2 - 1, count // 2, count // 2 + 1, count - 2, count - 1})
            calls = [path(i, count) for i in places]
            self.check(entries, calls, [counted(true_path(i, entries)) for i in places])

    def test_long_and_empty_entries(self):
        entries = [[], entry_of(3, 30800), [], [0] * 64]
        calls = [path(i, 4) for i in range(4)]
        self.check(entries, calls, [counted(true_path(i, entries)) for i in range(4)])

    def test_fewer_entries(self):
        for count in (0, 1, 2, 7, 8):
            for n in (count + 1, count + 2, 8193, GREATEST):
                for i in (0, count, n - 1):
                    self.check_one(log_of(count), path(i, n), [-2])

    def test_i_is_not_below_n(self):
        for count in (0, 1, 2, 7, 8):
            for n in range(count + 1):
                for i in (n, n + 1, 8192, GREATEST - 1, GREATEST):
                    self.check_one(log_of(count), path(i, n), [-2])

    def test_both_refusals_at_once(self):
        for count in (0, 1, 8):
            self.check_one(log_of(count), path(GREATEST, GREATEST), [-2])
            self.check_one(log_of(count), path(count + 2, count + 1), [-2])


class GrownTest(CallsCase):
    def test_not_grown_at_all(self):
        for count in (1, 2, 3, 4, 7, 8, 9):
            self.check_one(log_of(count), grown(count, count), [0])

    def test_two_to_four_entries_written_out(self):
        leaves = [sha256([0, k]) for k in (1, 2, 3, 4)]
        first = sha256([1] + leaves[0] + leaves[1])
        others = sha256([1] + leaves[2] + leaves[3])
        self.check_one([[1], [2]], grown(1, 2), [1] + leaves[1])
        self.check_one([[1], [2], [3]], grown(1, 3), [2] + leaves[1] + leaves[2])
        self.check_one([[1], [2], [3]], grown(2, 3), [1] + leaves[2])
        entries = [[1], [2], [3], [4]]
        self.check_one(entries, grown(1, 4), [2] + leaves[1] + others)
        self.check_one(entries, grown(2, 4), [1] + others)
        self.check_one(entries, grown(3, 4), [3] + leaves[2] + leaves[3] + first)

    def test_known_proofs(self):
        for a, n, texts in (
            (1, 1, []),
            (1, 8, [LEAF_1, ROOT_2_4, ROOT_4_8]),
            (6, 8, [ROOT_4_6, ROOT_6_8, ROOT_0_4]),
            (2, 5, [ROOT_2_4, LEAF_4]),
        ):
            self.check_one(KNOWN_ENTRIES, grown(a, n), counted([from_hex(text) for text in texts]))

    def test_every_a_of_small_logs(self):
        for count in range(1, 18):
            entries = log_of(count)
            calls = [grown(a, count) for a in range(1, count + 1)]
            self.check(entries, calls, [counted(true_grown(a, entries)) for a in range(1, count + 1)])

    def test_every_a_of_every_n_of_one_log(self):
        entries = log_of(20)
        places = [(a, n) for n in range(1, 21) for a in range(1, n + 1)]
        calls = [grown(a, n) for a, n in places]
        self.check(entries, calls, [counted(true_grown(a, entries[:n])) for a, n in places])

    def test_round_powers_of_two(self):
        for count in (31, 32, 33, 63, 64, 65, 127, 128, 129, 255, 256, 257):
            entries = log_of(count)
            half = count // 2
            places = sorted({1, 2, 3, half - 1, half, half + 1, count - 2, count - 1, count})
            calls = [grown(a, count) for a in places]
            self.check(entries, calls, [counted(true_grown(a, entries)) for a in places])

    def test_long_and_empty_entries(self):
        entries = [[], entry_of(3, 30800), [], [0] * 64]
        calls = [grown(a, 4) for a in (1, 2, 3, 4)]
        self.check(entries, calls, [counted(true_grown(a, entries)) for a in (1, 2, 3, 4)])

    def test_fewer_entries(self):
        for count in (0, 1, 2, 7, 8):
            for n in (count + 1, count + 2, 8193, GREATEST):
                for a in (0, 1, count, n):
                    self.check_one(log_of(count), grown(a, n), [-2])

    def test_a_is_0(self):
        for count in (0, 1, 2, 7, 8):
            for n in range(count + 1):
                self.check_one(log_of(count), grown(0, n), [-2])

    def test_a_is_above_n(self):
        for count in (0, 1, 2, 7, 8):
            for n in range(count + 1):
                for a in (n + 1, n + 2, 8193, GREATEST - 1, GREATEST):
                    self.check_one(log_of(count), grown(a, n), [-2])

    def test_several_refusals_at_once(self):
        for count in (0, 1, 8):
            self.check_one(log_of(count), grown(0, GREATEST), [-2])
            self.check_one(log_of(count), grown(GREATEST, GREATEST - 1), [-2])


class NothingChangesTest(CallsCase):
    """A root, a path and a grown leave the log as it was."""

    ASKED = [
        root(0), root(3), root(5), root(6), root(GREATEST), path(0, 1), path(2, 3), path(4, 5), path(5, 5),
        path(0, 6), path(GREATEST, GREATEST), grown(1, 1), grown(2, 5), grown(3, 5), grown(5, 5), grown(0, 5),
        grown(6, 5), grown(1, 6), grown(GREATEST, GREATEST),
    ]

    def test_after_each_all_is_answered_as_before(self):
        entries = log_of(5)
        plain = true_answers([add(entry) for entry in entries] + self.ASKED)
        start = len(told([[k] for k in range(5)]))
        for call in self.ASKED:
            given = answers(joined([add(entry) for entry in entries] + [call] + self.ASKED))
            self.same(given[len(given) - (len(plain) - start):], plain[start:])

    def test_the_next_entry_is_added_as_if_they_were_not(self):
        for call in self.ASKED:
            calls = [add(entry) for entry in log_of(5)] + [call, SIZE, add([9]), SIZE, root(6), path(5, 6), grown(5, 6)]
            self.same(answers(joined(calls)), true_answers(calls))

    def test_a_log_that_grows_between_them(self):
        calls = []
        for count, entry in enumerate(log_of(40), 1):
            calls += [add(entry), root(count), root(count // 2)]
            calls += [path(count // 3, count), grown((count + 1) // 2, count)]
        self.same(answers(joined(calls)), true_answers(calls))

    def test_what_was_asked_before_a_begin_is_forgotten(self):
        calls = [add([1]), add([2]), add([3]), root(3), path(0, 3), grown(1, 3), BEGIN]
        calls += [root(0), root(1), add([4]), root(1), root(2), add([5]), add([6]), root(3), path(0, 3), grown(1, 3)]
        self.same(answers(joined(calls)), true_answers(calls))


class ManyCallsTest(CallsCase):
    def test_299_entries(self):
        entries = log_of(299)
        self.check_one(entries, root(299), [0] + true_root(entries))
        self.check_one(entries, path(298, 299), counted(true_path(298, entries)))
        self.check_one(entries, path(0, 299), counted(true_path(0, entries)))
        self.check_one(entries, grown(255, 299), counted(true_grown(255, entries)))
        self.check_one(entries, grown(298, 299), counted(true_grown(298, entries)))

    def test_150_entries_and_150_calls(self):
        entries = log_of(150)
        calls = [add(entry) for entry in entries]
        for k in range(50):
            calls += [root(150 - k), path(3 * k, 150), grown(3 * k + 1, 150)]
        self.assertEqual(len(calls), 300)
        self.same(answers(joined(calls)), true_answers(calls))

    def test_300_calls_on_no_entries(self):
        calls = [root(0), path(0, 0), grown(0, 0)] * 100
        self.same(answers(joined(calls)), told([[0] + sha256([]), [-2], [-2]] * 100))

    def test_31000_numbers(self):
        calls = [add(entry_of(k, 120)) for k in range(253)] + [root(253), path(252, 253), grown(200, 253)]
        calls += [add([9] * (30998 - len(joined(calls))))]
        self.assertEqual(len(joined(calls)), 31000)
        self.same(answers(joined(calls)), true_answers(calls))

    def test_mixed_calls(self):
        chance = random.Random(6962)
        for length in list(range(1, 60)) + [299, 300]:
            calls = []
            count = 0
            for which in chance.choices(range(6), [1, 40, 6, 12, 12, 12], k=length):
                near = [chance.randrange(count + 2), chance.randrange(count + 2)]
                near = sorted(near) if chance.random() < 0.8 else near
                count = 0 if which == 0 else count + (which == 1)
                calls.append([
                    BEGIN, add(chance.choices([0, 1, 2, 3, 255], k=chance.randrange(70))), SIZE,
                    root(near[1]), path(*near), grown(*near),
                ][which])
            self.same(answers(joined(calls)), true_answers(calls))


class InterfaceTest(CallsCase):
    CALLS = joined([
        root(0), add([1, 2]), add([]), add([3]), root(3), path(1, 3), grown(2, 3), path(3, 3), grown(0, 3), root(4),
        BEGIN, add([4]), root(1), path(0, 1), grown(1, 1), SIZE,
    ])

    def test_list_handed_in_is_never_changed(self):
        handed = Unchangeable(self.CALLS)
        answers(handed)
        self.same(list(handed), self.CALLS)

    def test_second_time_is_as_the_first(self):
        for calls in ([3, 0], [3, 1], [4, 0, 1], [5, 1, 1], [1, 1, 7, 3, 1], self.CALLS):
            first = answers(list(calls))
            answers([1, 1, 9, 1, 1, 8, 3, 2, 4, 1, 2, 5, 1, 2])
            self.same(answers(list(calls)), first)

    def test_what_is_given_back_is_the_callers_own(self):
        kept = answers(list(self.CALLS))
        given = answers(list(self.CALLS))
        for place in range(len(given)):
            given[place] = 99
        self.same(answers(list(self.CALLS)), kept)

    def test_a_list_of_whole_numbers_is_given_back(self):
        given = answers(list(self.CALLS))
        self.assertIs(type(given), list)
        self.assertEqual({type(number) for number in given}, {int})

    def test_what_a_log_gives_back_is_not_its_own(self):
        log = Log()
        for entry in log_of(5):
            log.add(entry)
        kept = copy.deepcopy([log.root(0), log.root(1), log.root(5), log.path(1, 5), log.grown(3, 5)])
        for given in (log.root(0), log.root(1), log.root(5), log.path(1, 5), log.grown(3, 5)):
            for place in range(len(given)):
                given[place] = 99
        self.assertEqual([log.root(0), log.root(1), log.root(5), log.path(1, 5), log.grown(3, 5)], kept)


class LargestLogTest(ListCase):
    """A log of 8192 entries, which a list of calls is too short for."""

    def test_root_path_and_grown(self):
        log = Log()
        entries = [[k % 256, k // 256] for k in range(8192)]
        for entry in entries:
            log.add(entry)
        self.same(log.root(8192), [0] + true_root(entries))
        self.same(log.root(8191), [0] + true_root(entries[:8191]))
        self.same(log.path(8190, 8191), counted(true_path(8190, entries[:8191])))
        self.same(log.grown(4097, 8192), counted(true_grown(4097, entries)))
        self.same(log.root(8193), [-2])


if __name__ == "__main__":
    unittest.main()

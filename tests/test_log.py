import copy
import random
import unittest

from growlog.log import Log, UnknownCall, answer_at, answers
from reference import BEGIN, SIZE, ListCase, Unchangeable, add, joined, told, true_root


def single(numbers):
    """What answers gives back where each call answers one number."""
    return told([number] for number in numbers)


class AnswersCase(ListCase):
    def check(self, calls, numbers):
        self.same(answers(joined(calls)), single(numbers))


class BeginTest(AnswersCase):
    def test_first_and_only(self):
        self.check([BEGIN], [0])

    def test_leaves_no_entries(self):
        self.check([add([5]), add([6]), SIZE, BEGIN, SIZE], [0, 1, 2, 0, 0])

    def test_in_the_middle_counts_anew(self):
        calls = [add([5]), add([6]), BEGIN, add([7]), SIZE, add([8]), SIZE]
        self.check(calls, [0, 1, 0, 0, 1, 1, 2])

    def test_twice_in_a_row(self):
        self.check([add([5]), BEGIN, BEGIN, SIZE], [0, 0, 0, 0])

    def test_last(self):
        self.check([add([5]), add([6]), BEGIN], [0, 1, 0])


class AddTest(AnswersCase):
    def test_first_and_only(self):
        self.check([add([7, 8, 9])], [0])

    def test_tells_which_from_zero(self):
        self.check([add([1]), add([2, 2]), add([3])], [0, 1, 2])

    def test_equal_entries_are_each_added(self):
        self.check([add([4]), add([4]), SIZE], [0, 1, 2])

    def test_empty_entry_is_an_entry(self):
        self.check([add([])], [0])
        self.check([add([]), add([]), SIZE, add([1]), SIZE], [0, 1, 2, 2, 3])

    def test_bytes_of_an_entry_are_not_calls(self):
        self.check([add([0, 0, 2, 1, 5]), add([0]), add([2]), SIZE], [0, 1, 2, 3])

    def test_least_and_greatest_byte(self):
        self.check([add([0]), add([255]), add([0, 255] * 50), SIZE], [0, 1, 2, 3])

    def test_longest_entry_of_the_interface(self):
        for byte in (0, 1, 2, 255):
            self.check([add([byte] * 30900), SIZE, add([]), SIZE], [0, 1, 1, 2])

    def test_longest_entry_behind_others(self):
        self.check([BEGIN, add([9]), add([0, 255] * 15450), SIZE], [0, 0, 1, 2])


class SizeTest(AnswersCase):
    def test_first_and_only(self):
        self.check([SIZE], [0])

    def test_behind_each_call(self):
        calls = [BEGIN, SIZE, add([1]), SIZE, add([2]), SIZE]
        self.check(calls, [0, 0, 0, 1, 1, 2])

    def test_changes_nothing(self):
        self.check([add([1]), SIZE, SIZE, add([2]), SIZE], [0, 1, 1, 1, 2])


class ManyCallsTest(AnswersCase):
    def test_300_begins(self):
        self.check([BEGIN] * 300, [0] * 300)

    def test_300_sizes(self):
        self.check([SIZE] * 300, [0] * 300)

    def test_300_adds(self):
        self.check([add([n % 256]) for n in range(300)], range(300))

    def test_299_adds_and_size(self):
        self.check([add([])] * 299 + [SIZE], list(range(299)) + [299])

    def test_31000_numbers(self):
        calls = [add([255] * 30900)] + [SIZE] * 98
        self.assertEqual(len(joined(calls)), 31000)
        self.check(calls, [0] + [1] * 98)
        calls = [add([n] * 123) for n in range(248)]
        self.assertEqual(len(joined(calls)), 31000)
        self.check(calls, range(248))

    def test_mixed_calls(self):
        chance = random.Random(6962)
        for length in list(range(1, 40)) + [299, 300]:
            calls, numbers, count = [], [], 0
            for which in chance.choices([0, 1, 2], [1, 6, 3], k=length):
                if which == 0:
                    calls.append(BEGIN)
                    numbers.append(0)
                    count = 0
                elif which == 1:
                    calls.append(add(chance.choices([0, 1, 2, 255], k=chance.randrange(9))))
                    numbers.append(count)
                    count += 1
                else:
                    calls.append(SIZE)
                    numbers.append(count)
            self.check(calls, numbers)


class InterfaceTest(AnswersCase):
    CALLS = joined([add([1, 2]), SIZE, BEGIN, add([]), add([0, 255]), SIZE])

    def test_list_handed_in_is_never_changed(self):
        handed = Unchangeable(self.CALLS)
        answers(handed)
        self.same(list(handed), self.CALLS)

    def test_second_time_is_as_the_first(self):
        for calls in ([2], [1, 1, 7], [1, 0, 2], self.CALLS):
            first = answers(list(calls))
            answers([1, 1, 9, 1, 1, 9])
            self.assertEqual(answers(list(calls)), first)

    def test_what_is_given_back_is_the_callers_own(self):
        handed = list(self.CALLS)
        first = answers(handed)
        kept = list(first)
        first.append(99)
        first[0] = 99
        self.assertEqual(handed, self.CALLS)
        self.assertEqual(answers(handed), kept)

    def test_a_list_of_whole_numbers_is_given_back(self):
        given = answers(list(self.CALLS))
        self.assertIs(type(given), list)
        self.assertEqual({type(number) for number in given}, {int})

    def test_argument_is_named_calls(self):
        self.assertEqual(answers(calls=[2]), [1, 0])

    def test_unknown_call_is_not_answered(self):
        with self.assertRaises(UnknownCall):
            answers([2, 6])


class RefusalTest(ListCase):
    """The refusals of add, which the interface's bounds keep from showing in answers."""

    @classmethod
    def setUpClass(cls):
        cls.full = Log()
        cls.told = [cls.full.add([n % 256]) for n in range(8192)]

    def test_8192_entries_are_taken(self):
        self.same(self.told, [[n] for n in range(8192)])
        self.assertEqual(self.full.size(), [8192])

    def test_longest_entry_is_taken(self):
        log = Log()
        self.assertEqual(log.add([255] * 65536), [0])
        self.assertEqual(log.size(), [1])
        self.same(log.root(1), [0] + true_root([[255] * 65536]))

    def test_longer_entry_is_refused_and_changes_nothing(self):
        for length in (65537, 66000):
            log = Log()
            log.add([5])
            self.assertEqual(log.add([0] * length), [-1])
            self.assertEqual(log.size(), [1])
            self.same(log.root(1), [0] + true_root([[5]]))
            self.same(log.root(2), [-2])
            self.assertEqual(log.add([6]), [1])
            self.same(log.root(2), [0] + true_root([[5], [6]]))

    def test_full_log_refuses_and_changes_nothing(self):
        log = copy.deepcopy(self.full)
        for entry in ([], [1], [0] * 65536):
            self.assertEqual(log.add(entry), [-2])
            self.assertEqual(log.size(), [8192])
            self.same(log.root(8193), [-2])
        self.same(log.root(8192), [0] + true_root([[n % 256] for n in range(8192)]))

    def test_too_long_comes_before_full(self):
        log = copy.deepcopy(self.full)
        self.assertEqual(log.add([0] * 65537), [-1])
        self.assertEqual(log.size(), [8192])

    def test_begin_makes_room_in_a_full_log(self):
        log = copy.deepcopy(self.full)
        self.assertEqual(log.begin(), [0])
        self.assertEqual(log.size(), [0])
        self.assertEqual(log.add([1]), [0])


class EntriesTest(ListCase):
    def check(self, log, entries):
        self.assertEqual(log.size(), [len(entries)])
        for n in range(len(entries) + 1):
            self.same(log.root(n), [0] + true_root(entries[:n]))

    def test_each_entry_is_the_last_when_added(self):
        log = Log()
        entries = []
        for entry in ([1, 2], [], [0, 255], [1, 2]):
            log.add(entry)
            entries.append(entry)
            self.check(log, entries)

    def test_the_entry_of_a_call_is_all_its_bytes_and_no_more(self):
        for entry in ([], [7], [0, 255], [3, 1, 2], [9] * 30900):
            log = Log()
            calls = SIZE + add(entry) + SIZE
            self.assertEqual(answer_at(log, calls, 1), [0])
            self.check(log, [entry])

    def test_begin_leaves_none(self):
        log = Log()
        log.add([1])
        log.begin()
        self.check(log, [])

    def test_an_entry_stays_when_the_callers_list_changes(self):
        log = Log()
        entry = [1, 2]
        log.add(entry)
        entry.append(3)
        self.check(log, [[1, 2]])

    def test_two_logs_share_nothing(self):
        first, second = Log(), Log()
        first.add([1])
        self.check(second, [])


if __name__ == "__main__":
    unittest.main()

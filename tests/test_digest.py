"""growlog.proofs.digest."""

import random
import unittest

from growlog.proofs import digest
from reference import ListCase, Unchangeable, from_hex, sha256

# Each multiple of 64, and each place where the padding needs a block more, with what lies beside it.
EDGES = sorted({
    64 * blocks + beside
    for blocks in (0, 1, 2, 3, 4, 8, 16, 128, 512, 1023)
    for beside in (0, 1, 54, 55, 56, 57, 62, 63, 64)
})


def bytes_of(length):
    return [(31 * place + length) % 256 for place in range(length)]


class DigestCase(ListCase):
    def check(self, m):
        self.same(digest(list(m)), [0] + sha256(m))


class DigestTest(DigestCase):
    def test_nothing(self):
        wanted = from_hex("e3b0c44298fc1c149afbf4c8996fb92427ae41e4649b934ca495991b7852b855")
        self.same(digest([]), [0] + wanted)

    def test_examples_of_the_standard(self):
        for text, wanted in (
            ("abc", "ba7816bf8f01cfea414140de5dae2223b00361a396177a9cb410ff61f20015ad"),
            (
                "abcdbcdecdefdefgefghfghighijhijkijkljklmklmnlmnomnopnopq",
                "248d6a61d20638b8e5c026930c3e6039a33ce45964ff2167f6ecedd419db06c1",
            ),
        ):
            self.same(digest([ord(sign) for sign in text]), [0] + from_hex(wanted))

    def test_one_byte(self):
        for byte in range(256):
            self.check([byte])

    def test_every_length_to_five_blocks(self):
        for length in range(321):
            self.check(bytes_of(length))

    def test_lengths_round_blocks(self):
        for length in EDGES:
            self.check(bytes_of(length))

    def test_least_and_greatest_byte(self):
        for length in (1, 55, 56, 63, 64, 65, 119, 120, 128):
            self.check([0] * length)
            self.check([255] * length)
            self.check([0, 255] * length)

    def test_bytes_that_look_like_padding(self):
        self.check([128])
        self.check([128] + [0] * 54)
        self.check([128] + [0] * 63)
        self.check([7] + [128] + [0] * 61 + [8])

    def test_each_bit_of_a_word_counts(self):
        for place in (0, 3, 4, 63):
            for bit in range(8):
                m = [0] * 64
                m[place] = 2 ** bit
                self.check(m)

    def test_any_bytes(self):
        chance = random.Random(180)
        for length in [chance.randrange(1000) for turn in range(60)]:
            self.check([chance.randrange(256) for place in range(length)])

    def test_most_bytes(self):
        for m in ([0] * 65536, [255] * 65536, bytes_of(65535), bytes_of(65536)):
            self.check(m)


class RefusalTest(DigestCase):
    def test_more_than_65536_bytes(self):
        for length in (65537, 65538, 65599, 65600, 66000):
            self.assertEqual(digest([0] * length), [-1])
            self.assertEqual(digest(bytes_of(length)), [-1])


class InterfaceTest(DigestCase):
    SAMPLES = [[], [1, 2, 3], bytes_of(64), bytes_of(119), bytes_of(65536), bytes_of(65537)]

    def test_list_handed_in_is_never_changed(self):
        for m in self.SAMPLES:
            handed = Unchangeable(m)
            digest(handed)
            self.same(list(handed), m)

    def test_second_time_is_as_the_first(self):
        for m in self.SAMPLES:
            first = digest(list(m))
            for other in ([], [9] * 100, [0] * 66000):
                digest(other)
                self.same(digest(list(m)), first)

    def test_what_is_given_back_is_the_callers_own(self):
        for m in self.SAMPLES:
            given = digest(list(m))
            kept = list(given)
            given.clear()
            self.same(digest(list(m)), kept)

    def test_a_list_of_whole_numbers_is_given_back(self):
        for m in self.SAMPLES:
            given = digest(list(m))
            self.assertIs(type(given), list)
            self.assertEqual({type(number) for number in given}, {int})
            self.assertEqual(len(given), 1 if len(m) > 65536 else 33)

    def test_argument_is_named_m(self):
        self.check([7])
        self.same(digest(m=[7]), digest([7]))


if __name__ == "__main__":
    unittest.main()

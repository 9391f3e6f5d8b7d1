"""Promise 1: p2_sum."""

import hashlib
import unittest

from curvekeys import keys
from curvekeys.keys import p2_sum
from handed_in import bytes_of_hex, check_apart, check_form, message, text

# From FIPS 180 and its examples.
KNOWN = (
    ("", "e3b0c44298fc1c149afbf4c8996fb92427ae41e4649b934ca495991b7852b855"),
    ("abc", "ba7816bf8f01cfea414140de5dae2223b00361a396177a9cb410ff61f20015ad"),
    ("abcdbcdecdefdefgefghfghighijhijkijkljklmklmnlmnomnopnopq",
     "248d6a61d20638b8e5c026930c3e6039a33ce45964ff2167f6ecedd419db06c1"),
    ("abcdefghbcdefghicdefghijdefghijkefghijklfghijklmghijklmnhijklmnoijklmnopjklmnopqklmnopqrlmnopqrsmnopqrstnopqrstu",
     "cf5b16a778af8380036ce59e7b0492370b249b11e8f07a51afac45037afee9d1"),
)


class SumTest(unittest.TestCase):
    def check_message(self, m):
        expected = [0] + list(hashlib.sha256(bytes(m)).digest())
        self.assertEqual(p2_sum(len(m), m), expected, len(m))

    def test_known_sums(self):
        for words, digest in KNOWN:
            m = text(words)
            self.assertEqual(p2_sum(len(m), m), [0] + bytes_of_hex(digest))

    def test_every_length_around_the_filling(self):
        for n in range(0, 260):
            self.check_message(message(n))

    def test_filling_edges_with_extreme_bytes(self):
        for n in (1, 55, 56, 57, 63, 64, 65, 119, 120, 121, 127, 128, 129):
            for byte in (0, 128, 255):
                self.check_message([byte] * n)

    def test_each_byte_alone(self):
        for byte in range(256):
            self.check_message([byte])

    def test_thousands_of_bytes(self):
        # From 8192 bytes on the length in bits needs a third byte.
        for n in (4096, 5003, 8191, 8192, 8193):
            self.check_message(message(n))

    def test_longest_list(self):
        self.check_message(message(100000))

    def test_refused_lengths(self):
        for n in (-1, -2, -255, -2147483648, 16777217, 16777218, 2147483647):
            self.assertEqual(p2_sum(n, []), [-1], n)

    def test_edges_of_the_length(self):
        # A list of 16777216 bytes is never handed in, so that edge is asked of the length alone.
        self.assertTrue(keys.is_length(0))
        self.assertTrue(keys.is_length(100000))
        self.assertTrue(keys.is_length(16777216))
        self.assertFalse(keys.is_length(16777217))
        self.assertFalse(keys.is_length(-1))

    def test_form(self):
        check_form(self, p2_sum(0, []), 32)
        check_form(self, p2_sum(3, [97, 98, 99]), 32)
        check_form(self, p2_sum(-1, []), 32)

    def test_nothing_changed_or_kept(self):
        for n in (0, 1, 55, 56, 64, 200):
            check_apart(self, lambda m: p2_sum(n, m), [message(n)], 32)
        check_apart(self, lambda m: p2_sum(16777217, m), [[]], 32)

    def test_calls_between_others(self):
        first = p2_sum(3, [97, 98, 99])
        p2_sum(-5, [])
        p2_sum(70, message(70))
        self.assertEqual(p2_sum(3, [97, 98, 99]), first)


if __name__ == "__main__":
    unittest.main()

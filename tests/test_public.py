"""Promise 2: p2_public."""

import unittest

from curvekeys.keys import p2_public
from handed_in import bytes_of, bytes_of_hex, check_apart, check_form
from known_points import B, KEYS, NO_SECRETS, P, Q


class PublicTest(unittest.TestCase):
    def test_known_keys(self):
        for d, x, y, short in KEYS:
            expected = [0, 4] + bytes_of_hex(x) + bytes_of_hex(y)
            self.assertEqual(p2_public(bytes_of_hex(d)), expected, d)

    def test_points_lie_on_the_curve(self):
        for d in [1 << i for i in range(0, 256, 5)] + list(range(6, 30)):
            answer = p2_public(bytes_of(d))
            x = int.from_bytes(bytes(answer[2:34]), "big")
            y = int.from_bytes(bytes(answer[34:]), "big")
            self.assertTrue(x < P and y < P, d)
            self.assertEqual((y * y - x * x * x + 3 * x - B) % P, 0, d)

    def test_secret_and_its_opposite(self):
        for d in (1, 7, 2 ** 128 + 9, 2 ** 255 - 19):
            one = p2_public(bytes_of(d))
            other = p2_public(bytes_of(Q - d))
            self.assertEqual(one[:34], other[:34], d)
            ys = int.from_bytes(bytes(one[34:]), "big") + int.from_bytes(bytes(other[34:]), "big")
            self.assertEqual(ys, P, d)

    def test_no_secret(self):
        for d in NO_SECRETS:
            self.assertEqual(p2_public(bytes_of(d)), [-2], hex(d))

    def test_form(self):
        for d in (1, Q - 1, 0, Q):
            check_form(self, p2_public(bytes_of(d)), 65)

    def test_nothing_changed_or_kept(self):
        for d in (0, 1, 2, 2 ** 200 + 5, Q - 1, Q, 2 ** 256 - 1):
            check_apart(self, p2_public, [bytes_of(d)], 65)

    def test_calls_between_others(self):
        first = p2_public(bytes_of(2))
        p2_public(bytes_of(0))
        p2_public(bytes_of(Q - 1))
        self.assertEqual(p2_public(bytes_of(2)), first)


if __name__ == "__main__":
    unittest.main()

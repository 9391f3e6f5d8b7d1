"""Promise 6: p2_short."""

import unittest

from curvekeys.keys import p2_public, p2_short
from handed_in import bytes_of, bytes_of_hex, check_apart, check_form
from known_points import KEYS, LAST_X, P, Q, SMALL_X, SMALL_Y, no_publics, number, public_of

X = number(KEYS[0][1])
Y = number(KEYS[0][2])


class ShortTest(unittest.TestCase):
    def test_known_keys(self):
        for d, x, y, short in KEYS:
            public = [4] + bytes_of_hex(x) + bytes_of_hex(y)
            self.assertEqual(p2_short(public), [0] + bytes_of_hex(short), d)

    def test_known_keys_are_of_both_kinds(self):
        firsts = [short[:2] for d, x, y, short in KEYS]
        self.assertTrue(firsts.count("02") > 3 and firsts.count("03") > 3)

    def test_points_at_edges(self):
        # The ys of these, and the first bytes of their short forms, as OpenSSL tells them.
        firsts = (2, 2, 3, 3, 2, 3, 3)
        for (x, y), first in zip(SMALL_X + SMALL_Y + (LAST_X,), firsts, strict=True):
            self.assertEqual(p2_short(public_of(x, y)), [0, first] + bytes_of(x), x)
            self.assertEqual(p2_short(public_of(x, P - y)), [0, 5 - first] + bytes_of(x), x)

    def test_secret_and_its_opposite(self):
        for d in list(range(1, 20)) + [2 ** 128 + 9, 2 ** 255 - 19]:
            one = p2_short(p2_public(bytes_of(d))[1:])
            other = p2_short(p2_public(bytes_of(Q - d))[1:])
            self.assertEqual(sorted((one[1], other[1])), [2, 3], d)
            self.assertEqual(one[2:], other[2:], d)

    def test_no_public_key(self):
        for public in no_publics(X, Y):
            self.assertEqual(p2_short(public), [-3], public)


class CallTest(unittest.TestCase):
    def test_form(self):
        for public in (public_of(X, Y), public_of(X, P - Y), public_of(*SMALL_X[0]), public_of(X, Y + 1), [0] * 65):
            check_form(self, p2_short(public), 33)

    def test_nothing_changed_or_kept(self):
        for public in (public_of(X, Y), public_of(X, P - Y), public_of(*SMALL_X[0]), public_of(*SMALL_Y[0]),
                       public_of(X, Y + 1), [2] + bytes_of(X) + bytes_of(Y), [0] * 65, [255] * 65):
            check_apart(self, p2_short, [public], 33)

    def test_calls_between_others(self):
        first = p2_short(public_of(X, Y))
        p2_short(public_of(X, P - Y))
        p2_short([0] * 65)
        p2_short(public_of(*SMALL_X[0]))
        p2_public(bytes_of(9))
        self.assertEqual(p2_short(public_of(X, Y)), first)


if __name__ == "__main__":
    unittest.main()

"""Promise 4: p2_check."""

import unittest
from unittest import mock

from curvekeys import keys
from curvekeys.keys import p2_check, p2_public, p2_sign, p2_sum
from handed_in import bytes_of, bytes_of_hex, check_apart, check_form, message, text
from known_points import P, Q, SMALL_X, SMALL_Y, not_on_the_curve, number, public_of
from known_signatures import KNOWN, SAMPLE

NO_LENGTHS = (-1, -2, -2147483648, 16777217, 16777218, 2147483647)

ABC = text("abc")

# Public keys and signatures of "abc" as x, y, r, s, each made for an edge; OpenSSL was asked of them too.
# e / s times G and r / s times the public key's point are one and the same.
SAME = tuple(map(number, (
    "8FA1BE72DD549E85BABB56B4898DB4C69B5EC3A7B5FFD69CA46FFFAAAEBF3BF5",
    "9BD02C8EA1BBD931776F9A9A8C94CB87B9F4B316330A17E39BDFD8D44367D4E3",
    "F9EBE464147CC102D92324D099D927C1A50E42D57A08A116FFEC0A29819D8C65",
    "538F7CB355F2EBFEB793EF48174A83CF64986565A8385C0DACF3D316673D4E40")))
# They add up to the one far away, with any s.
FAR = (SAME[0], P - SAME[1], SAME[2], 0x1234567890ABCDEF1234567890ABCDEF)
# They add up to a point whose x is p - 3, so r is that less q.
LARGEST_X = tuple(map(number, (
    "E82579A3AC77E389ED85D431FEA28A9B4AEF74170FC78A0B944B9E500958F108",
    "7905FB76C1E3D9E76735CC6DA2E9FBBBA5DC717B3427FF1DAC0294E7AE4EB3BB",
    "000000000000000000000000000000004319055358E8617B0C46353D039CDAAB",
    "0000000000000000000000000000000000000000000000000000000000ABCDEF")))
# Whose x is q + 3, the first from q on; s is q - 1.
X_FROM_Q_ON = tuple(map(number, (
    "C69224C48E7C3D16EB39CC8B22AAF227BBDA39CEA4F2DC4CD10A909A840F4834",
    "B6EE1D0A1C9FCBE8DD396C5EA2C6451F12BFC853B63682481FD13FD93F779C08",
    "0000000000000000000000000000000000000000000000000000000000000003",
    "FFFFFFFF00000000FFFFFFFFFFFFFFFFBCE6FAADA7179E84F3B9CAC2FC632550")))
# Whose x is q - 2, the last below q.
X_BELOW_Q = tuple(map(number, (
    "D540CDA1119DD8B87EF9D215F47343864F4F5A50A58C94C2D92A0B9A79BD7D37",
    "EAD177B42ADBA0C065A634F2CCC02334758AD8DA1CFF231932E176335988DCD7",
    "FFFFFFFF00000000FFFFFFFFFFFFFFFFBCE6FAADA7179E84F3B9CAC2FC63254F",
    "0000000000000000000000000000000000000000000000000000000000000002")))
S_IS_1 = tuple(map(number, (
    "FA98DF482A5499EA815C4946743487258F2E89294AB34E91F628C4CCF14FEB2E",
    "0EBE54617F06CFAC809CCD9BFA9DEB6F46E4ABA6161767BDBEEDC2B8FA6EBF6B",
    "F9EBE464147CC102D92324D099D927C1A50E42D57A08A116FFEC0A29819D8C65",
    "0000000000000000000000000000000000000000000000000000000000000001")))


def check_abc(x, y, r, s):
    return p2_check(3, public_of(x, y), ABC, bytes_of(r) + bytes_of(s))


def known_rows(rows):
    for secret, m, r, s in rows:
        yield p2_public(bytes_of_hex(secret))[1:], m, number(r), number(s)


class CheckTest(unittest.TestCase):
    def setUp(self):
        secret, m, r, s = SAMPLE[0]
        self.public = p2_public(bytes_of_hex(secret))[1:]
        self.m = m
        self.r = number(r)
        self.s = number(s)
        self.signature = bytes_of(self.r) + bytes_of(self.s)

    def answer(self, r, s):
        return p2_check(len(self.m), self.public, self.m, bytes_of(r) + bytes_of(s))

    def test_known_signatures(self):
        for public, m, r, s in known_rows(KNOWN):
            self.assertEqual(p2_check(len(m), public, m, bytes_of(r) + bytes_of(s)), [1], m[:10])

    def test_s_and_its_opposite(self):
        for public, m, r, s in known_rows(KNOWN[:4]):
            self.assertEqual(p2_check(len(m), public, m, bytes_of(r) + bytes_of(Q - s)), [1], m[:10])

    def test_own_signatures(self):
        for d in (1, 2, Q - 1, 2 ** 255 - 19, 987654321):
            for n in (0, 1, 100):
                signature = p2_sign(n, bytes_of(d), message(n))[1:]
                public = p2_public(bytes_of(d))[1:]
                self.assertEqual(p2_check(n, public, message(n), signature), [1], (d, n))

    def test_longest_list(self):
        m = message(100000)
        signature = p2_sign(100000, bytes_of(5), m)[1:]
        public = p2_public(bytes_of(5))[1:]
        self.assertEqual(p2_check(100000, public, m, signature), [1])
        m[99999] ^= 1
        self.assertEqual(p2_check(100000, public, m, signature), [0])

    def test_each_byte_of_the_signature_changed(self):
        for place in range(64):
            changed = list(self.signature)
            changed[place] ^= 1 << (place % 8)
            self.assertEqual(p2_check(len(self.m), self.public, self.m, changed), [0], place)

    def test_r_and_s_changed(self):
        for r, s in ((self.r + 1, self.s), (self.r - 1, self.s), (self.r, self.s + 1), (self.r, self.s - 1),
                     (self.s, self.r), (Q - self.r, self.s), (1, 1), (Q - 1, Q - 1), (1, self.s), (self.r, 1)):
            self.assertEqual(self.answer(r, s), [0], (r, s))

    def test_message_changed(self):
        for m in ([], text("sampl"), text("samplf"), text("tample"), text("Sample"), text("sample "), [0] + self.m):
            self.assertEqual(p2_check(len(m), self.public, m, self.signature), [0], m)

    def test_public_key_changed(self):
        opposite = P - int.from_bytes(bytes(self.public[33:]), "big")
        others = [p2_public(bytes_of(d))[1:] for d in (1, 2, Q - 1, number(SAMPLE[0][0]) + 1)]
        for public in others + [self.public[:33] + bytes_of(opposite)]:
            self.assertEqual(p2_check(len(self.m), public, self.m, self.signature), [0], public)

    def test_r_or_s_out_of_bounds(self):
        for out in (0, Q, Q + 1, P - 1, P, P + 1, 2 ** 256 - 1):
            self.assertEqual(self.answer(out, self.s), [0], hex(out))
            self.assertEqual(self.answer(self.r, out), [0], hex(out))
            self.assertEqual(self.answer(out, out), [0], hex(out))

    def test_r_or_s_with_q_added(self):
        x, y, r, s = X_FROM_Q_ON
        self.assertEqual(check_abc(x, y, r + Q, s), [0])
        x, y, r, s = LARGEST_X
        self.assertEqual(check_abc(x, y, r + Q, s), [0])
        self.assertEqual(check_abc(x, y, r, s + Q), [0])
        x, y, r, s = S_IS_1
        self.assertEqual(check_abc(x, y, r, s + Q), [0])

    def test_r_that_is_0_with_an_x_that_is_0(self):
        # No signature is known whose points add up to such an x, so the sum is put in its place.
        for x in (0, Q):
            with mock.patch.object(keys, "points_added", return_value=(x, 1)):
                self.assertEqual(self.answer(0, self.s), [0])
                self.assertEqual(self.answer(Q, self.s), [0])

    def test_edges_of_r_and_s(self):
        for row in (LARGEST_X, X_FROM_Q_ON, X_BELOW_Q, S_IS_1):
            self.assertEqual(check_abc(*row), [1], row)

    def test_two_points_that_are_one(self):
        x, y, r, s = SAME
        self.assertEqual(check_abc(x, y, r, s), [1])
        self.assertEqual(check_abc(x, y, r, Q - s), [1])
        self.assertEqual(check_abc(x, y, r, s + 1), [0])

    def test_sum_far_away(self):
        x, y, r, s = FAR
        for some in (s, 1, 2, SAME[3], Q - 1):
            self.assertEqual(check_abc(x, y, r, some), [0], hex(some))


class NoPublicTest(unittest.TestCase):
    def setUp(self):
        self.x, self.y, r, s = SAME
        self.signature = bytes_of(r) + bytes_of(s)

    def answer(self, public):
        return p2_check(3, public, ABC, self.signature)

    def test_first_byte(self):
        rest = bytes_of(self.x) + bytes_of(self.y)
        self.assertEqual(self.answer([4] + rest), [1])
        for first in range(256):
            if first != 4:
                self.assertEqual(self.answer([first] + rest), [-3], first)

    def test_points_with_edges(self):
        for x, y in SMALL_X + SMALL_Y:
            self.assertEqual(self.answer(public_of(x, y)), [0], (x, y))
            self.assertEqual(self.answer(public_of(x, P - y)), [0], (x, y))

    def test_x_from_p_on(self):
        for x, y in SMALL_X:
            self.assertEqual(self.answer(public_of(x + P, y)), [-3], x)
            self.assertEqual(self.answer(public_of(x + P, P - y)), [-3], x)

    def test_y_from_p_on(self):
        for x, y in SMALL_Y:
            self.assertEqual(self.answer(public_of(x, y + P)), [-3], y)

    def test_not_on_the_curve(self):
        for one, other in not_on_the_curve(self.x, self.y):
            self.assertEqual(self.answer(public_of(one, other)), [-3], (one, other))

    def test_each_byte_changed(self):
        public = public_of(self.x, self.y)
        for place in range(65):
            changed = list(public)
            changed[place] ^= 1 << (place % 8)
            self.assertEqual(self.answer(changed), [-3], place)

    def test_no_public_key_with_a_wrong_signature(self):
        for r, s in ((0, 0), (Q, Q), (1, 1), (2 ** 256 - 1, 5)):
            self.assertEqual(check_abc(1, 1, r, s), [-3], (r, s))


class CallTest(unittest.TestCase):
    def setUp(self):
        self.public = public_of(*SAME[:2])
        self.signature = bytes_of(SAME[2]) + bytes_of(SAME[3])

    def test_refused_lengths(self):
        for n in NO_LENGTHS:
            self.assertEqual(p2_check(n, self.public, [], self.signature), [-1], n)

    def test_refused_length_ahead_of_no_public_key(self):
        for n in NO_LENGTHS:
            for public in ([0] * 65, [5] + self.public[1:], public_of(1, 1), [255] * 65):
                self.assertEqual(p2_check(n, public, [], self.signature), [-1], n)
            self.assertEqual(p2_check(n, [0] * 65, [], [0] * 64), [-1], n)

    def test_form(self):
        for n, public, m, signature in (
                (3, self.public, ABC, self.signature), (0, self.public, [], self.signature),
                (0, self.public, [], [0] * 64), (0, [0] * 65, [], self.signature),
                (-1, self.public, [], self.signature)):
            check_form(self, p2_check(n, public, m, signature), 0)

    def test_nothing_changed_or_kept(self):
        for n, public, m, signature in (
                (3, self.public, ABC, self.signature), (0, self.public, [], self.signature),
                (0, self.public, [], [0] * 64), (3, self.public, ABC, [255] * 64),
                (3, public_of(*FAR[:2]), ABC, bytes_of(FAR[2]) + bytes_of(FAR[3])),
                (200, self.public, message(200), self.signature),
                (3, [2] + self.public[1:], ABC, self.signature), (-1, self.public, [], self.signature)):
            check_apart(self, lambda one, two, three: p2_check(n, one, two, three), [public, m, signature], 0)

    def test_calls_between_others(self):
        first = p2_check(3, self.public, ABC, self.signature)
        p2_check(-5, self.public, [], self.signature)
        p2_check(0, [0] * 65, [], self.signature)
        p2_check(3, self.public, ABC, [1] * 64)
        p2_sign(3, bytes_of(8), ABC)
        p2_sum(3, ABC)
        p2_public(bytes_of(9))
        self.assertEqual(p2_check(3, self.public, ABC, self.signature), first)
        self.assertEqual(first, [1])


if __name__ == "__main__":
    unittest.main()

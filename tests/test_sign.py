"""Promise 3: p2_sign."""

import hashlib
import hmac
import itertools
import unittest
from unittest import mock

from curvekeys import keys
from curvekeys.keys import p2_public, p2_sign, p2_sum
from handed_in import bytes_of, bytes_of_hex, check_apart, check_form, message, text
from known_points import NO_SECRETS, P, Q
from known_signatures import KNOWN, LARGE_SUM, OTHERS, SAMPLE, SECOND_TRY

NO_LENGTHS = (-1, -2, -2147483648, 16777217, 16777218, 2147483647)


def hmac_of(key, *parts):
    return hmac.new(key, b"".join(parts), hashlib.sha256).digest()


def sum_of(m):
    return int.from_bytes(hashlib.sha256(bytes(m)).digest(), "big")


def tries(d, e):
    """The numbers c one after the other, by Python's own HMAC."""
    z = d.to_bytes(32, "big") + (e % Q).to_bytes(32, "big")
    value = bytes([1]) * 32
    key = hmac_of(bytes(32), value, b"\0", z)
    value = hmac_of(key, value)
    key = hmac_of(key, value, b"\1", z)
    value = hmac_of(key, value)
    while True:
        value = hmac_of(key, value)
        yield int.from_bytes(value, "big")
        key = hmac_of(key, value, b"\0")
        value = hmac_of(key, value)


class SignTest(unittest.TestCase):
    def check_known(self, rows):
        for secret, m, r, s in rows:
            expected = [0] + bytes_of_hex(r) + bytes_of_hex(s)
            self.assertEqual(p2_sign(len(m), bytes_of_hex(secret), m), expected, (secret, m[:10]))

    def test_examples_of_the_rfc(self):
        self.check_known(SAMPLE)

    def test_other_known_signatures(self):
        self.check_known(OTHERS)

    def test_sum_not_below_q(self):
        for secret, m, r, s in LARGE_SUM:
            self.assertGreaterEqual(sum_of(m), Q)
        self.check_known(LARGE_SUM)

    def test_first_c_not_below_q(self):
        for secret, m, r, s in SECOND_TRY:
            some = list(itertools.islice(tries(int(secret, 16), sum_of(m)), 2))
            self.assertGreaterEqual(some[0], Q)
            self.assertLess(some[1], Q)
        self.check_known(SECOND_TRY)

    def test_longest_list(self):
        m = message(100000)
        answer = p2_sign(100000, bytes_of(12345), m)
        c = next(tries(12345, sum_of(m)))
        r = int.from_bytes(bytes(p2_public(bytes_of(c))[2:34]), "big") % Q
        s = (sum_of(m) + r * 12345) * pow(c, -1, Q) % Q
        self.assertEqual(answer, [0] + bytes_of(r) + bytes_of(s))

    def test_refused_lengths(self):
        for n in NO_LENGTHS:
            self.assertEqual(p2_sign(n, bytes_of(7), []), [-1], n)

    def test_no_secret(self):
        for d in NO_SECRETS:
            self.assertEqual(p2_sign(0, bytes_of(d), []), [-2], hex(d))
            self.assertEqual(p2_sign(3, bytes_of(d), text("abc")), [-2], hex(d))

    def test_refused_length_ahead_of_no_secret(self):
        for n in NO_LENGTHS:
            for d in NO_SECRETS:
                self.assertEqual(p2_sign(n, bytes_of(d), []), [-1], (n, hex(d)))

    def test_form(self):
        check_form(self, p2_sign(0, bytes_of(1), []), 64)
        check_form(self, p2_sign(0, bytes_of(0), []), 64)
        check_form(self, p2_sign(-1, bytes_of(1), []), 64)
        for secret, m, r, s in KNOWN:
            check_form(self, p2_sign(len(m), bytes_of_hex(secret), m), 64)

    def test_nothing_changed_or_kept(self):
        for n in (0, 1, 64, 200):
            for d in (1, Q - 1, 2 ** 200 + 5, 0, Q):
                check_apart(self, lambda secret, m: p2_sign(n, secret, m), [bytes_of(d), message(n)], 64)
        for secret, m, r, s in SECOND_TRY:
            check_apart(self, lambda one, other: p2_sign(len(m), one, other), [bytes_of_hex(secret), m], 64)
        check_apart(self, lambda secret, m: p2_sign(-1, secret, m), [bytes_of(5), []], 64)

    def test_calls_between_others(self):
        m = text("sample")
        first = p2_sign(len(m), bytes_of(2), m)
        p2_sign(-5, bytes_of(2), [])
        p2_sign(1, bytes_of(0), [1])
        p2_sign(70, bytes_of(Q - 1), message(70))
        p2_sum(3, text("abc"))
        p2_public(bytes_of(9))
        self.assertEqual(p2_sign(len(m), bytes_of(2), m), first)


class StepsTest(unittest.TestCase):
    """What no message is known for is asked of the steps: tries that fail again and again, r or s that is 0."""

    def test_hmac(self):
        for n in (0, 1, 32, 55, 64, 97, 200):
            for key in ([0] * 32, [255] * 32, message(32), [92] * 32, [54] * 32):
                expected = hmac_of(bytes(key), bytes(message(n)))
                self.assertEqual(keys.hmac(key, message(n)), list(expected))

    def test_given_up_after_256_tries(self):
        d = 2 ** 100 + 1
        m = text("sample")
        seen = []

        def failing(c, secret, e):
            seen.append(c)
            self.assertEqual((secret, e), (d, sum_of(m)))
            return None

        with mock.patch.object(keys, "signature_by", failing):
            check_form(self, p2_sign(len(m), bytes_of(d), m), 64)
            del seen[:]
            self.assertEqual(p2_sign(len(m), bytes_of(d), m), [-4])
        self.assertEqual(seen, list(itertools.islice(tries(d, sum_of(m)), 256)))

    def test_not_given_up_ahead_of_it(self):
        for count in (1, 2, 254, 255):
            answers = [None] * count + [message(64)]
            with mock.patch.object(keys, "signature_by", side_effect=answers):
                self.assertEqual(p2_sign(0, bytes_of(3), []), [0] + message(64), count)

    def test_given_up_with_every_c_wrong(self):
        for c in ([0] * 32, bytes_of(Q), [255] * 32):
            with mock.patch.object(keys, "hmac", return_value=c):
                self.assertEqual(p2_sign(0, bytes_of(3), []), [-4])
                self.assertEqual(p2_sign(-1, bytes_of(3), []), [-1])
                self.assertEqual(p2_sign(0, bytes_of(0), []), [-2])

    def test_c_from_1_to_below_q(self):
        e = sum_of([])
        for c in (0, Q, Q + 1, 2 ** 256 - 1):
            self.assertIsNone(keys.signature_by(c, 5, e))
        for c in (1, 2, Q - 1):
            r = int.from_bytes(bytes(p2_public(bytes_of(c))[2:34]), "big") % Q
            s = (e + r * 5) * pow(c, -1, Q) % Q
            self.assertEqual(keys.signature_by(c, 5, e), bytes_of(r) + bytes_of(s))

    def test_s_that_is_0(self):
        c = 77
        e = sum_of([])
        r = int.from_bytes(bytes(p2_public(bytes_of(c))[2:34]), "big") % Q
        d = -e * pow(r, -1, Q) % Q
        self.assertIsNone(keys.signature_by(c, d, e))
        self.assertIsNotNone(keys.signature_by(c, d + 1, e))

    def test_r_modulo_q(self):
        for x in (0, Q):
            with mock.patch.object(keys, "point_times", return_value=(x, 1)):
                self.assertIsNone(keys.signature_by(77, 5, 6))
        for x in (1, Q - 1, Q + 1, P - 1):
            with mock.patch.object(keys, "point_times", return_value=(x, 1)):
                r = x % Q
                s = (6 + r * 5) * pow(77, -1, Q) % Q
                self.assertEqual(keys.signature_by(77, 5, 6), bytes_of(r) + bytes_of(s))


if __name__ == "__main__":
    unittest.main()

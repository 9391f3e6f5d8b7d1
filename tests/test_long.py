"""Promise 6: p2_long."""

import unittest

from curvekeys.keys import p2_long, p2_public, p2_short
from handed_in import bytes_of, bytes_of_hex, check_apart, check_form
from known_points import B, KEYS, LAST_X, P, Q, SMALL_X, SMALL_Y, number, public_of

# Worked out by OpenSSL: x, and the y of its point with an even one.
EVEN = (
    ("795B929E9A9A80FDEA7B5BF55EB561A4216363698B529B4A97B750923CEB3FFD",
     "B0BA5F1AB9C2E19D130983A619F8FC883FB655F073C2A3921D7E81745636F1F8"),
    ("8A7D43B578633074B7970386FEE29476311624273BFD1D338D0038EC42650644",
     "439C5695A18C9AEC0E352DC468412A45A96A2B03B94B48179C3B6839839D74D2"),
    ("3B5F3D86268ECC45DC6BF1E1A399F82A65AA9C8279F248B08CB4A0D7D6225675",
     "63766A44D9B7E9E50B67E3BD91313DCFE2C85B95FAF9561DE63AFC6B7D7D2F8E"),
    ("03E0A813BDC2AE9963D2E49085EF3430ED038DB4DE38378426D0B944A2863A7F",
     "4438D16DCFC83B5D883EA4BC2C64EA9AB4D33D0BEA3AFE19C9AA59A87C2B08D8"),
    ("984181177906159644F9794CDD933160D2D5844307F062CEC7B317D94D1FE09F",
     "D45056A54282EBE48CB51154E7516F297BB5A4D2CF1E444F5376BAAFADABC098"),
    ("2257989FEF829C88F6CED90A71D2AF7293B05A04CD085B71BA6676B3651C5253",
     "A1FCBE233D73EE0BB24B5F03EE86BAD690E701BB5D0C09322D6DD384470641CC"),
    ("00000000FFFFFFFEFFFFFFFFFFFFFFFFFFFFFFFEFFFFFFFFFFFFFFFFFFFFFFFF",
     "CD34B10EDD5280A1268B3232524CABAE43A2961582D4A4E5BF54E4A25D6DD926"),
)
# The last of them is the largest that stays within 32 bytes with p added.
LARGEST_WITH_P = number(EVEN[-1][0])

# By OpenSSL too, no point has these.
NO_X = (1, 2, 3, 4, 7, 10, 11, 14, 15, 16, 18, 19, 20, 21, 22, 27, 28, 30, 32, 33, 36, 38,
        P - 1, P - 2, P - 8, P - 9, P - 11, P - 12, P - 14, P - 15, P - 16,
        number("781F9C58D6645FA9E8A8529F035EFA259B08923D10C67FD994B2B8FDA02F34A6"),
        number("0AF438D297524D6AF51E8722C21B609228CE6F2410645D51C6F8DA3EABE19F58"),
        number("6D4B9ADBEBCD1F5EC9C18070B6D13089633A50EEE0F9E038EB8F624FB804D820"),
        number("6BD0638B4D100D8FDAF0105BA06C05A1C76ABF436FA84DCAAC0AE4E2F729B4C8"))

SECRETS = [1, 2, Q - 1, Q - 2, 2 ** 255 - 19] + list(range(3, 25)) + [1 << i for i in range(5, 256, 10)]


def long_of(first, x):
    return p2_long([first] + bytes_of(x))


class LongTest(unittest.TestCase):
    def test_known_keys(self):
        for d, x, y, short in KEYS:
            self.assertEqual(p2_long(bytes_of_hex(short)), [0, 4] + bytes_of_hex(x) + bytes_of_hex(y), d)

    def test_known_points(self):
        for x, y in EVEN:
            self.assertEqual(long_of(2, number(x)), [0] + public_of(number(x), number(y)), x)
            self.assertEqual(long_of(3, number(x)), [0] + public_of(number(x), P - number(y)), x)

    def test_points_at_edges(self):
        for x, y in SMALL_X + SMALL_Y + (LAST_X,):
            self.assertEqual(long_of(2 + y % 2, x), [0] + public_of(x, y), x)
            self.assertEqual(long_of(3 - y % 2, x), [0] + public_of(x, P - y), x)

    def test_every_small_x(self):
        # Told by the power that is 1 for squares alone, another way than by a root.
        found = [x for x in range(200) if long_of(2, x)[0] == 0]
        self.assertEqual(found, [x for x in range(200) if pow(x ** 3 - 3 * x + B, (P - 1) // 2, P) == 1])
        for x in found:
            y = int.from_bytes(bytes(long_of(2, x)[34:]), "big")
            self.assertEqual((y % 2, y * y % P), (0, (x ** 3 - 3 * x + B) % P), x)
            self.assertEqual(long_of(3, x), [0] + public_of(x, P - y), x)


class BackTest(unittest.TestCase):
    def test_public_keys_in_short_and_back(self):
        for d in SECRETS:
            public = p2_public(bytes_of(d))[1:]
            self.assertEqual(p2_long(p2_short(public)[1:]), [0] + public, d)

    def test_short_forms_made_long_and_back(self):
        xs = [x for x, y in SMALL_X + SMALL_Y + (LAST_X,)] + [number(x) for x, y in EVEN]
        for x in xs:
            for first in (2, 3):
                in_short = [first] + bytes_of(x)
                self.assertEqual(p2_short(p2_long(in_short)[1:]), [0] + in_short, in_short)


class RefusalTest(unittest.TestCase):
    def test_first_byte(self):
        for x in (number(KEYS[0][1]), number(EVEN[0][0]), 0, 5, 1, P - 3, P, P + 5):
            for first in range(256):
                if first not in (2, 3):
                    self.assertEqual(long_of(first, x), [-3], (first, x))

    def test_x_from_p_on(self):
        for x in (P, P + 1, P + 2, P + 3, P + 5, P + 6, P + 8, P + LARGEST_WITH_P, 2 ** 256 - 2, 2 ** 256 - 1):
            self.assertEqual(long_of(2, x), [-3], x - P)
            self.assertEqual(long_of(3, x), [-3], x - P)

    def test_x_from_p_on_that_is_a_points_with_p_taken_off(self):
        for x in [x for x, y in SMALL_X] + [LARGEST_WITH_P]:
            for first in (2, 3):
                self.assertEqual(long_of(first, x)[0], 0, x)
                self.assertEqual(long_of(first, x + P), [-3], x)

    def test_x_that_no_point_has(self):
        for x in NO_X:
            self.assertEqual(long_of(2, x), [-3], x)
            self.assertEqual(long_of(3, x), [-3], x)

    def test_extreme_bytes(self):
        for in_short in ([0] * 33, [255] * 33, [2] * 33, [2] + [255] * 32, [3] + [255] * 32, [4] + [0] * 32):
            x = int.from_bytes(bytes(in_short[1:]), "big")
            square = pow(x ** 3 - 3 * x + B, (P - 1) // 2, P) == 1
            right = in_short[0] in (2, 3) and x < P and square
            self.assertEqual(p2_long(in_short)[0], 0 if right else -3, in_short)


class CallTest(unittest.TestCase):
    def setUp(self):
        self.x = number(KEYS[0][1])

    def test_form(self):
        for first, x in ((2, self.x), (3, self.x), (2, 0), (3, 5), (3, P - 3), (4, self.x), (2, 1), (2, P)):
            check_form(self, long_of(first, x), 65)

    def test_nothing_changed_or_kept(self):
        for first, x in ((2, self.x), (3, self.x), (2, 0), (3, 0), (3, 5), (2, P - 3), (0, self.x), (4, self.x),
                         (2, 1), (3, P), (2, P + 5), (255, 2 ** 256 - 1)):
            check_apart(self, p2_long, [[first] + bytes_of(x)], 65)

    def test_calls_between_others(self):
        first = long_of(2, self.x)
        long_of(3, self.x)
        long_of(2, 1)
        long_of(4, self.x)
        p2_public(bytes_of(9))
        self.assertEqual(long_of(2, self.x), first)


if __name__ == "__main__":
    unittest.main()

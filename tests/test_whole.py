"""What the document promises over all seven calls."""

import contextlib
import copy
import inspect
import io
import types
import unittest
from unittest import mock

from curvekeys import keys
from handed_in import FixedList, bytes_of, check_form, message, text
from known_points import KEYS, LAST_X, P, Q, SMALL_X, number, public_of

ABC = text("abc")
X = number(KEYS[1][1])
Y = number(KEYS[1][2])
PUBLIC = public_of(X, Y)
NO_PUBLIC = public_of(X, Y + 1)
SECRET = bytes_of(2)
NO_SECRET = bytes_of(0)
SIGNATURE = keys.p2_sign(3, SECRET, ABC)[1:]

PARAMETERS = {
    "p2_sum": ["n", "m"],
    "p2_public": ["secret"],
    "p2_sign": ["n", "secret", "m"],
    "p2_check": ["n", "public", "m", "signature"],
    "p2_shared": ["secret", "public"],
    "p2_short": ["public"],
    "p2_long": ["in_short"],
}

# How many bytes stand behind the number of each call.
COUNTS = {"p2_sum": 32, "p2_public": 65, "p2_sign": 64, "p2_check": 0, "p2_shared": 32, "p2_short": 33, "p2_long": 65}

# A call, what's handed in, the number that's answered.
EXAMPLES = (
    ("p2_sum", [0, []], 0),
    ("p2_sum", [3, ABC], 0),
    ("p2_sum", [200, message(200)], 0),
    ("p2_sum", [-1, []], -1),
    ("p2_sum", [16777217, []], -1),
    ("p2_public", [SECRET], 0),
    ("p2_public", [bytes_of(Q - 1)], 0),
    ("p2_public", [NO_SECRET], -2),
    ("p2_public", [bytes_of(Q)], -2),
    ("p2_sign", [3, SECRET, ABC], 0),
    ("p2_sign", [0, bytes_of(Q - 1), []], 0),
    ("p2_sign", [-1, SECRET, []], -1),
    ("p2_sign", [3, NO_SECRET, ABC], -2),
    ("p2_sign", [-2147483648, NO_SECRET, []], -1),
    ("p2_check", [3, PUBLIC, ABC, SIGNATURE], 1),
    ("p2_check", [2, PUBLIC, ABC[:2], SIGNATURE], 0),
    ("p2_check", [3, PUBLIC, ABC, [0] * 64], 0),
    ("p2_check", [16777217, PUBLIC, [], SIGNATURE], -1),
    ("p2_check", [3, NO_PUBLIC, ABC, SIGNATURE], -3),
    ("p2_check", [3, NO_PUBLIC, ABC, [0] * 64], -3),
    ("p2_check", [2147483647, NO_PUBLIC, [], [0] * 64], -1),
    ("p2_shared", [bytes_of(3), PUBLIC], 0),
    ("p2_shared", [bytes_of(1), public_of(*SMALL_X[0])], 0),
    ("p2_shared", [NO_SECRET, PUBLIC], -2),
    ("p2_shared", [SECRET, NO_PUBLIC], -3),
    ("p2_shared", [bytes_of(Q), NO_PUBLIC], -2),
    ("p2_short", [PUBLIC], 0),
    ("p2_short", [public_of(*LAST_X)], 0),
    ("p2_short", [NO_PUBLIC], -3),
    ("p2_short", [[2] + PUBLIC[1:]], -3),
    ("p2_long", [[2] + bytes_of(X)], 0),
    ("p2_long", [[3] + bytes_of(X)], 0),
    ("p2_long", [[4] + bytes_of(X)], -3),
    ("p2_long", [[2] + bytes_of(1)], -3),
    ("p2_long", [[2] + bytes_of(P)], -3),
)


def call(name, values):
    return getattr(keys, name)(*values)


def fixed(values):
    return [FixedList(value) if isinstance(value, list) else value for value in values]


class WholeTest(unittest.TestCase):
    def test_names_and_parameters(self):
        for name, parameters in PARAMETERS.items():
            found = inspect.signature(getattr(keys, name)).parameters
            self.assertEqual(list(found), parameters, name)
            self.assertTrue(all(one.default is inspect.Parameter.empty for one in found.values()), name)

    def test_parameters_by_name(self):
        for name, values, answered in EXAMPLES:
            by_name = getattr(keys, name)(**dict(zip(PARAMETERS[name], values, strict=True)))
            self.assertEqual(by_name, call(name, values), (name, values))

    def test_every_call_has_examples(self):
        self.assertEqual({name for name, values, answered in EXAMPLES}, set(PARAMETERS))

    def test_numbers_and_the_order_of_refusals(self):
        for name, values, answered in EXAMPLES:
            self.assertEqual(call(name, values)[0], answered, (name, values))

    def test_form(self):
        for name, values, answered in EXAMPLES:
            check_form(self, call(name, values), COUNTS[name])

    def test_nothing_handed_in_is_changed(self):
        for name, values, answered in EXAMPLES:
            before = copy.deepcopy(values)
            self.assertEqual(call(name, fixed(values)), call(name, values), (name, values))
            self.assertEqual(values, before, name)

    def test_answers_are_lists_of_their_own(self):
        for name, values, answered in EXAMPLES:
            first = call(name, values)
            kept = list(first)
            first.clear()
            self.assertEqual(call(name, values), kept, (name, values))

    def test_whatever_was_called_before(self):
        there = [call(name, values) for name, values, answered in EXAMPLES]
        back = [call(name, values) for name, values, answered in reversed(EXAMPLES)]
        self.assertEqual(there, back[::-1])

    def test_nothing_kept_in_the_module(self):
        before = {name: copy.deepcopy(value) for name, value in vars(keys).items() if name[:2] != "__"}
        for name, values, answered in EXAMPLES:
            call(name, values)
        after = {name: value for name, value in vars(keys).items() if name[:2] != "__"}
        self.assertEqual(after, before)
        for value in after.values():
            self.assertIsInstance(value, (int, tuple, types.FunctionType))
            if isinstance(value, types.FunctionType):
                self.assertEqual((value.__dict__, value.__defaults__), ({}, None))

    def test_nothing_printed_or_read(self):
        out = io.StringIO()
        with contextlib.redirect_stdout(out), contextlib.redirect_stderr(out), mock.patch("sys.stdin", None):
            for name, values, answered in EXAMPLES:
                call(name, values)
        self.assertEqual(out.getvalue(), "")


if __name__ == "__main__":
    unittest.main()

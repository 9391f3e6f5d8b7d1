"""What several tests share: lists that can't be changed, bytes and messages, the form of an answer."""


def refuse(self, *values, **named):
    raise AssertionError("a list that was handed in is changed")


class FixedList(list):
    """A list that fails at every change, so a change that's undone later shows too."""

    __setitem__ = __delitem__ = __iadd__ = __imul__ = refuse
    append = extend = insert = pop = remove = clear = reverse = sort = refuse


def bytes_of(number):
    return list(number.to_bytes(32, "big"))


def bytes_of_hex(text):
    return list(bytes.fromhex(text))


def text(words):
    return list(words.encode("ascii"))


def message(n):
    return [(i * i * 7 + i * 31 + n) % 256 for i in range(n)]


def check_form(case, answer, count):
    """One list of plain whole numbers: the number, then count bytes; a refusal by itself."""
    case.assertIs(type(answer), list)
    for number in answer:
        case.assertIs(type(number), int)
    if answer[0] < 0:
        case.assertEqual(len(answer), 1)
    else:
        case.assertEqual(len(answer), 1 + count)
        for byte in answer[1:]:
            case.assertTrue(0 <= byte <= 255)


def check_apart(case, call, lists, count):
    """The call changes no list handed in and keeps nothing: twice the same, in lists of their own."""
    before = [list(values) for values in lists]
    first = call(*[FixedList(values) for values in lists])
    check_form(case, first, count)
    kept = list(first)
    first.append(-99)
    first[0] = -98
    second = call(*lists)
    case.assertEqual(second, kept)
    case.assertEqual(lists, before)
    for values in lists:
        case.assertIsNot(second, values)

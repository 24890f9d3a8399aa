"""What several test files need: floats at the edges, an own reading of bits, checks."""

import math
import struct

NUMBERS = [
    0x00000000,  # 0
    0x80000000,  # -0
    0x00000001,  # the least above 0
    0x80000001,
    0x007FFFFF,  # the greatest that is not normal
    0x807FFFFF,
    0x00800000,  # the least that is normal
    0x80800000,
    0x3F800000,  # 1
    0xBF800000,  # -1
    0x3F800001,
    0xBF800001,
    0x40490FDB,
    0xC0490FDB,
    0x7F7FFFFF,  # the greatest that is finite
    0xFF7FFFFF,
    0x7F800000,  # infinity
    0xFF800000,  # -infinity
]
HOLES = [
    0x7F800001,  # next to infinity
    0xFF800001,  # next to -infinity
    0x7FBFFFFF,
    0xFFBFFFFF,
    0x7FC00000,
    0xFFC00000,
    0x7FC12345,
    0xFFC12345,
    0x7FFFFFFF,
    0xFFFFFFFF,
]
FLOATS = NUMBERS + HOLES

# Whole numbers at the edges of -2^31 to 2^31 - 1, and some within.
WHOLES = [
    -2147483648, -2147483647, -1073741825, -1073741824, -1000, -2, -1,
    0, 1, 2, 1000, 1073741823, 1073741824, 2147483646, 2147483647,
]

# Places that a column of three rows doesn't have.
FAR_PLACES = [-2147483648, -2147483647, -1000, -4, -3, -2, -1, 3, 4, 1000, 2147483646, 2147483647]

NOT_ALLOWED = [
    "__delitem__", "__iadd__", "__imul__", "__setitem__", "append", "clear",
    "extend", "insert", "pop", "remove", "reverse", "sort",
]


def value_of(bits):
    """Read 32 bits as the float that they stand for."""
    return struct.unpack("<f", struct.pack("<I", bits))[0]


def is_nan(bits):
    return math.isnan(value_of(bits))


def long_column(count):
    """A column of count rows in which every float at the edges turns up."""
    return [FLOATS[(7 * i + i // len(FLOATS)) % len(FLOATS)] for i in range(count)]


def long_wholes(count):
    """Count whole numbers among which every one at the edges turns up."""
    return [WHOLES[(7 * i + i // len(WHOLES)) % len(WHOLES)] for i in range(count)]


def long_mask(count):
    return [1 if i % 3 == 0 or i % 7 == 2 else 0 for i in range(count)]


class Unchanging(list):
    """A list that refuses to be changed, for a while either."""


def refuse(self, *arguments, **keywords):
    raise AssertionError("a list that was handed in was changed")


for name in NOT_ALLOWED:
    setattr(Unchanging, name, refuse)


def check_kinds(case, answer):
    """The answer is a list of ints, none of them True or False."""
    case.assertIs(type(answer), list)
    for number in answer:
        case.assertIs(type(number), int)


def check_same(case, found, expected):
    """The two lists are the same; if not, tell the first place where they part."""
    # assertEqual would line up two long lists against each other, which takes minutes.
    if found == expected:
        return
    for place, (x, y) in enumerate(zip(found, expected)):
        if x != y:
            case.fail(f"at {place}: {x!r} where {y!r} was expected")
    case.fail(f"{len(found)} numbers where {len(expected)} were expected")


def check_call(case, call, given, expected):
    """The call answers as expected, twice, keeps nothing and changes nothing."""
    lists = [Unchanging(x) if isinstance(x, list) else x for x in given]
    first = call(*lists)
    check_kinds(case, first)
    check_same(case, first, expected)
    # What a caller does to an answer must not show in the next one.
    first.append(77)
    first[0] = 78
    check_same(case, call(*lists), expected)
    plain = [list(x) if isinstance(x, list) else x for x in given]
    check_same(case, call(*plain), expected)
    case.assertTrue(lists == list(given) and plain == list(given), "what was handed in has changed")

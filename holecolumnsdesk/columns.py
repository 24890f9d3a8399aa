"""Calls over columns of 32-bit floats, told by their bits, and over masks."""

SIGN_BIT = 0x80000000
INFINITY = 0x7F800000
LAST_WHERE = 7
LAST_MASKS = 4


def is_hole(bits):
    """Tell whether the float of these bits is no number."""
    return bits % SIGN_BIT > INFINITY


def rank(bits):
    """Give a whole number that lies among ranks as the float lies among numbers."""
    # Without the sign, floats rise as their bits do; so both zeros get rank 0.
    return SIGN_BIT - bits if bits >= SIGN_BIT else bits


def ranks_agree(what, left, right):
    """Tell whether two numbers, by their ranks, stand as what (0 to 3) asks."""
    if what == 0:
        return left < right
    if what == 1:
        return left <= right
    if what == 2:
        return left == right
    return left != right


def row_agrees(what, left, right):
    """Tell whether a row of two floats is as what (0 to 7) asks."""
    if what == 4:
        return is_hole(left)
    if what == 5:
        return not is_hole(left)
    if what == 6:
        return is_hole(left) or is_hole(right)
    if what == 7:
        return left >= SIGN_BIT
    # A hole is not even unlike another: what 3 asks for two numbers.
    if is_hole(left) or is_hole(right):
        return False
    return ranks_agree(what, rank(left), rank(right))


def where(what, a, b):
    """Answer how many rows are as what asks, then a bit for each row; or -1."""
    if what < 0 or what > LAST_WHERE:
        return [-1]
    bits = [1 if row_agrees(what, left, right) else 0 for left, right in zip(a, b)]
    return [sum(bits)] + bits


def joined_bit(what, left, right):
    """Join two bits as what (0 to 4) asks."""
    if what == 0:
        return left & right
    if what == 1:
        return left | right
    if what == 2:
        return left & (1 - right)
    if what == 3:
        return left ^ right
    return 1 - (left | right)


def masks(what, a, b):
    """Answer how many bits of the joined mask are set, then its bits; or -1."""
    if what < 0 or what > LAST_MASKS:
        return [-1]
    bits = [joined_bit(what, left, right) for left, right in zip(a, b)]
    return [sum(bits)] + bits


def pack(a, mask):
    """Answer how many rows of a have their bit set, then these rows."""
    rows = [row for row, bit in zip(a, mask) if bit == 1]
    return [len(rows)] + rows

"""Calls over columns of 32-bit floats, told by their bits, and over masks."""

SIGN_BIT = 0x80000000
INFINITY = 0x7F800000
HALF_OF_WHOLES = 0x80000000
ALL_WHOLES = 0x100000000
LAST_WHERE = 7
LAST_MASKS = 4
LAST_LIMITS = 1
LAST_FIND = 1


def is_hole(bits):
    """Tell whether the float of these bits is no number."""
    return bits % SIGN_BIT > INFINITY


def rank(bits):
    """Give a whole number that lies among ranks as the float lies among numbers."""
    # Without the sign, floats rise as their bits do; so both zeros get rank 0.
    return SIGN_BIT - bits if bits >= SIGN_BIT else bits


def ranks_agree(what, left, right):
    """Tell whether two numbers, by their ranks, stand as what (0 to 3) asks."""
    if what == 0:
        return left < right
    if what == 1:
        return left <= right
    if what == 2:
        return left == right
    return left != right


def row_agrees(what, left, right):
    """Tell whether a row of two floats is as what (0 to 7) asks."""
    if what == 4:
        return is_hole(left)
    if what == 5:
        return not is_hole(left)
    if what == 6:
        return is_hole(left) or is_hole(right)
    if what == 7:
        return left >= SIGN_BIT
    # A hole is not even unlike another: what 3 asks for two numbers.
    if is_hole(left) or is_hole(right):
        return False
    return ranks_agree(what, rank(left), rank(right))


def where(what, a, b):
    """Answer how many rows are as what asks, then a bit for each row; or -1."""
    if what < 0 or what > LAST_WHERE:
        return [-1]
    bits = [1 if row_agrees(what, left, right) else 0 for left, right in zip(a, b)]
    return [sum(bits)] + bits


def joined_bit(what, left, right):
    """Join two bits as what (0 to 4) asks."""
    if what == 0:
        return left & right
    if what == 1:
        return left | right
    if what == 2:
        return left & (1 - right)
    if what == 3:
        return left ^ right
    return 1 - (left | right)


def masks(what, a, b):
    """Answer how many bits of the joined mask are set, then its bits; or -1."""
    if what < 0 or what > LAST_MASKS:
        return [-1]
    bits = [joined_bit(what, left, right) for left, right in zip(a, b)]
    return [sum(bits)] + bits


def set_rows(a, mask):
    """Give the rows of a whose bit is set, in their order."""
    return [row for row, bit in zip(a, mask) if bit == 1]


def pack(a, mask):
    """Answer how many rows of a have their bit set, then these rows."""
    rows = set_rows(a, mask)
    return [len(rows)] + rows


def spread(other, source, mask):
    """Answer how many bits are set, then source's rows where they are, other elsewhere."""
    rows = []
    taken = 0
    for bit in mask:
        if bit == 1:
            rows.append(source[taken])
            taken += 1
        else:
            rows.append(other)
    return [taken] + rows


def has_row(column, place):
    """Tell whether the column has a row of this place."""
    # Python would count a place below 0 from the column's end.
    return 0 <= place < len(column)


def pick(other, a, places):
    """Answer how many places a doesn't have, then a's rows of the places, other for those."""
    rows = [a[place] if has_row(a, place) else other for place in places]
    # The rows can't tell: a's own row may have the same bits as other.
    missing = [place for place in places if not has_row(a, place)]
    return [len(missing)] + rows


def lay(a, places, source):
    """Answer how many rows of source were laid at their places, then a with these."""
    rows = list(a)
    laid = 0
    for place, row in zip(places, source):
        if has_row(rows, place):
            rows[place] = row
            laid += 1
    return [laid] + rows


def wrapped(number):
    """Bring a whole number into -2^31 to 2^31 - 1, modulo 2^32."""
    return (number + HALF_OF_WHOLES) % ALL_WHOLES - HALF_OF_WHOLES


def add_at(a, places, source):
    """Answer how many rows of source were added at their places, then a with these."""
    rows = list(a)
    added = 0
    for place, row in zip(places, source):
        if has_row(rows, place):
            rows[place] = wrapped(rows[place] + row)
            added += 1
    return [added] + rows


def choose(mask, a, b):
    """Answer 0, then a's row where the bit is set, b's elsewhere."""
    return [0] + [left if bit == 1 else right for bit, left, right in zip(mask, a, b)]


def rank_zeros_apart(bits):
    """Give a rank as rank does, but a lower one to -0 than to 0."""
    return rank(bits) - 1 if bits >= SIGN_BIT else rank(bits)


def limit(what, left, right):
    """Give the lower (what 0) or the greater (what 1) of two floats, a hole only for want of a number."""
    if is_hole(right):
        return left
    if is_hole(left):
        return right
    if rank_zeros_apart(left) < rank_zeros_apart(right):
        return left if what == 0 else right
    return right if what == 0 else left


def limits(what, a, b):
    """Answer in how many rows both are holes, then the lower or greater of each row; or -1."""
    if what < 0 or what > LAST_LIMITS:
        return [-1]
    rows = [limit(what, left, right) for left, right in zip(a, b)]
    # A row is left a hole only where both are.
    return [len([row for row in rows if is_hole(row)])] + rows


def hold(a):
    """Answer how many holes were filled, then a with the nearest number before in their place."""
    rows = []
    filled = 0
    for row in a:
        # A row that is filled hands its number on; only ahead of all numbers a hole is left.
        if is_hole(row) and len(rows) > 0 and not is_hole(rows[-1]):
            rows.append(rows[-1])
            filled += 1
        else:
            rows.append(row)
    return [filled] + rows


def number_places(a):
    """Give the places of the rows that are no holes."""
    return [place for place, row in enumerate(a) if not is_hole(row)]


def find(what, a, mask):
    """Answer 1, then the place of the least or greatest number whose bit is set; or 0; or -1."""
    if what < 0 or what > LAST_FIND:
        return [-1]
    places = [place for place in number_places(a) if mask[place] == 1]
    if len(places) == 0:
        return [0]
    # Of several that are the same, min and max both give the first.
    if what == 0:
        return [1, min(places, key=lambda place: rank(a[place]))]
    return [1, max(places, key=lambda place: rank(a[place]))]


def total(a, mask):
    """Answer how many rows of a have their bit set, then their sum."""
    rows = set_rows(a, mask)
    return [len(rows), sum(rows)]


def runs(a):
    """Answer how many runs of the same bits there are, then the places where they begin."""
    places = [place for place in range(len(a)) if place == 0 or a[place] != a[place - 1]]
    return [len(places)] + places


def order(a):
    """Answer how many rows there are, then their places: numbers rising, holes behind them."""
    # sorted leaves rows of the same rank in the order that they had.
    numbers = sorted(number_places(a), key=lambda place: rank(a[place]))
    holes = [place for place, row in enumerate(a) if is_hole(row)]
    return [len(a)] + numbers + holes

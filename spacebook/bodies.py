"""A body: a set of the cube's cells, as one whole number.

Bit n of a body is 1 if the cell with the number n is taken. So what is done
to all cells at once is done by the bit operators.
"""

# How much higher a cell's number is one place on along x, y, z.
STRIDES = (1, 8, 64)

# For each turn // 8: which of the old x, y, z (0, 1, 2) the new x, y, z are.
ORDERS = ((0, 1, 2), (0, 2, 1), (1, 0, 2), (1, 2, 0), (2, 0, 1), (2, 1, 0))


def full_body():
    """The body with all 512 cells."""
    return (1 << 512) - 1


def number_of(x, y, z):
    """The number of the cell at x, y, z."""
    return x + 8 * y + 64 * z


def place_of(number):
    """The x, y, z of the cell with that number."""
    return (number % 8, number // 8 % 8, number // 64)


def first_cell(body):
    """The body with the first of the body's cells alone."""
    # A number and its negative have just the lowest 1 in common.
    return body & -body


def first_number(body):
    """The number of the body's first cell."""
    return first_cell(body).bit_length() - 1


def numbers_of(body):
    """The numbers of the body's cells, in order."""
    numbers = []
    rest = body
    while rest != 0:
        lowest = first_cell(rest)
        numbers.append(lowest.bit_length() - 1)
        rest = rest ^ lowest
    return numbers


def cell_body(x, y, z):
    """The body with that one cell."""
    return 1 << number_of(x, y, z)


def has_cell(body, x, y, z):
    """Whether the body has the cell at x, y, z."""
    return body & cell_body(x, y, z) != 0


def repeated(part, first, last, apart):
    """The part put first * apart to last * apart bits higher, all together."""
    together = 0
    for times in range(first, last + 1):
        together |= part << (times * apart)
    return together


def box_body(first, last):
    """The cells from the first place to the last in each number."""
    row = repeated(1, first[0], last[0], 1)
    layer = repeated(row, first[1], last[1], 8)
    return repeated(layer, first[2], last[2], 64)


def marked(body, cells, to):
    """The body with those cells taken (to 1) or free (to 0)."""
    if to == 1:
        return body | cells
    return body & ~cells


def joined(first, second, table):
    """The first with the second, by a table of four bits."""
    outside_first = full_body() ^ first
    outside_second = full_body() ^ second
    parts = (
        outside_first & outside_second,
        outside_first & second,
        first & outside_second,
        first & second,
    )
    together = 0
    for row, part in enumerate(parts):
        if (table >> row) & 1 == 1:
            together |= part
    return together


def moved(body, dx, dy, dz):
    """The body moved; what would go out of the cube is lost."""
    steps = (dx, dy, dz)
    first = [max(0, -step) for step in steps]
    last = [min(7, 7 - step) for step in steps]
    staying = body & box_body(first, last)
    # A step may be far above 7: nothing is shifted that far.
    if staying == 0:
        return 0
    higher = number_of(dx, dy, dz)
    if higher < 0:
        return staying >> -higher
    return staying << higher


def turned(body, turn):
    """The body turned, by a turn from 0 to 47."""
    from_x, from_y, from_z = [turned_shares(axis, turn) for axis in range(3)]
    together = 0
    for number in numbers_of(body):
        x, y, z = place_of(number)
        together |= 1 << (from_x[x] + from_y[y] + from_z[z])
    return together


def turned_shares(axis, turn):
    """What an old number along that axis, from 0 to 7, adds to the turned cell's number."""
    order = list(ORDERS[turn // 8])
    new_axis = order.index(axis)
    shares = [number * STRIDES[new_axis] for number in range(8)]
    if (turn >> new_axis) & 1 == 1:
        shares.reverse()
    return shares

"""The one form: a body as few bytes, and bytes as a body.

A cube is named by the number of its first cell and by its side.
"""

from spacebook.bodies import box_body, number_of


def halves(first, side):
    """The first cells of the eight cubes of half the side, in order."""
    half = side // 2
    corners = [(corner % 2, corner // 2 % 2, corner // 4) for corner in range(8)]
    return [first + half * number_of(x, y, z) for x, y, z in corners]


def cube_body(first, side):
    """The body with all cells of that cube."""
    return box_body((0, 0, 0), (side - 1, side - 1, side - 1)) << first


def cube_bits(body, first, side):
    """The bits that tell the body's cells in that cube."""
    if side == 1:
        return [(body >> first) & 1]
    cube = cube_body(first, side)
    if body & cube == 0:
        return [0, 0]
    if body & cube == cube:
        return [1, 0]
    bits = [0, 1]
    for half in halves(first, side):
        bits.extend(cube_bits(body, half, side // 2))
    return bits


def written(body):
    """The bytes of the body's form."""
    bits = cube_bits(body, 0, 8)
    row = [0] * ((len(bits) + 7) // 8)
    for at, bit in enumerate(bits):
        row[at // 8] |= bit << (at % 8)
    return row


def joined_bits(row):
    """The row's bits as one whole number, the first bit the lowest."""
    together = 0
    for at, byte in enumerate(row):
        together |= byte << (8 * at)
    return together


def body_of_bits(bits):
    """The body that the bits tell. What no form has is let through here.

    Behind their last one the bits are taken as 0, and 1 1 as none.
    """
    body = 0
    waiting = [(0, 8)]
    while len(waiting) > 0:
        first, side = waiting.pop()
        if side == 1:
            body |= (bits & 1) << first
            bits = bits >> 1
            continue
        # Two bits, the first the lowest: 1 0 is 1, 0 1 is 2.
        pair = bits & 3
        bits = bits >> 2
        if pair == 1:
            body |= cube_body(first, side)
        if pair == 2:
            for half in reversed(halves(first, side)):
                waiting.append((half, side // 2))
    return body


def read_body(row):
    """The body whose form the row is, or None if it is no form."""
    body = body_of_bits(joined_bits(row))
    # Each body has one form: any other row, however near, is none.
    if written(body) != row:
        return None
    return body

"""What is made of a body by the cells beside its cells.

A kind says which places are beside one another: 0 over faces, 1 over edges
too, 2 over corners too.
"""

from spacebook.bodies import box_body, first_cell, full_body, moved


def steps_beside(kind):
    """The steps dx, dy, dz from a place to those beside it."""
    steps = []
    for dz in (-1, 0, 1):
        for dy in (-1, 0, 1):
            for dx in (-1, 0, 1):
                if 1 <= abs(dx) + abs(dy) + abs(dz) <= kind + 1:
                    steps.append((dx, dy, dz))
    return steps


def grown(body, kind):
    """The cells that are taken or have a taken one beside them."""
    together = body
    for dx, dy, dz in steps_beside(kind):
        together |= moved(body, dx, dy, dz)
    return together


def shrunk(body, kind):
    """The taken cells all places beside which are taken."""
    common = body
    # No cell is moved in from outside, so none at the cube's outside stays.
    for dx, dy, dz in steps_beside(kind):
        common &= moved(body, dx, dy, dz)
    return common


def reached(start, allowed, kind):
    """What one comes to from the allowed cells of start, over allowed ones."""
    found = 0
    wider = start & allowed
    while wider != found:
        found = wider
        wider = grown(found, kind) & allowed
    return found


def pieces(body, kind):
    """The body's pieces, in the order of their first cells."""
    parted = []
    rest = body
    while rest != 0:
        piece = reached(first_cell(rest), rest, kind)
        parted.append(piece)
        rest = rest ^ piece
    return parted


def filled(body, kind):
    """All cells but the free ones from which one comes to the outside."""
    outside = full_body() ^ box_body((1, 1, 1), (6, 6, 6))
    free = full_body() ^ body
    return full_body() ^ reached(outside, free, kind)

"""What each call does to the four bodies, and what it answers.

An act is given the bodies and the numbers of its call, which are all as the
document wants them.
"""

from spacebook.bodies import box_body, cell_body, joined, marked, moved, numbers_of, turned
from spacebook.reach import filled, grown, reached, shrunk


def clear_body(bodies, numbers):
    bodies[numbers[0]] = 0
    return [0]


def tell_cell(bodies, numbers):
    o, x, y, z = numbers
    return [0, 1 if bodies[o] & cell_body(x, y, z) != 0 else 0]


def set_cell(bodies, numbers):
    o, x, y, z, to = numbers
    bodies[o] = marked(bodies[o], cell_body(x, y, z), to)
    return [0]


def set_box(bodies, numbers):
    o = numbers[0]
    bodies[o] = marked(bodies[o], box_body(numbers[1:4], numbers[4:7]), numbers[7])
    return [0]


def join_bodies(bodies, numbers):
    o, p, table = numbers
    bodies[o] = joined(bodies[o], bodies[p], table)
    return [0]


def move_body(bodies, numbers):
    o, dx, dy, dz = numbers
    bodies[o] = moved(bodies[o], dx, dy, dz)
    return [0]


def turn_body(bodies, numbers):
    o, turn = numbers
    bodies[o] = turned(bodies[o], turn)
    return [0]


def grow_body(bodies, numbers):
    o, kind, times = numbers
    for done in range(times):
        bodies[o] = grown(bodies[o], kind)
    return [0]


def shrink_body(bodies, numbers):
    o, kind, times = numbers
    for done in range(times):
        bodies[o] = shrunk(bodies[o], kind)
    return [0]


def fill_body(bodies, numbers):
    o, kind = numbers
    bodies[o] = filled(bodies[o], kind)
    return [0]


def keep_piece(bodies, numbers):
    o, kind, x, y, z = numbers
    bodies[o] = reached(cell_body(x, y, z), bodies[o], kind)
    return [0]


def tell_same(bodies, numbers):
    o, p = numbers
    return [0, 1 if bodies[o] == bodies[p] else 0]


def tell_count(bodies, numbers):
    return [0, len(numbers_of(bodies[numbers[0]]))]


def tell_count_in(bodies, numbers):
    inside = bodies[numbers[0]] & box_body(numbers[1:4], numbers[4:7])
    return [0, len(numbers_of(inside))]


ACTS = {
    1: clear_body,
    2: tell_cell,
    3: set_cell,
    4: set_box,
    5: join_bodies,
    6: move_body,
    7: turn_body,
    8: grow_body,
    9: shrink_body,
    10: fill_body,
    11: keep_piece,
    12: tell_same,
    13: tell_count,
    14: tell_count_in,
}


def act(call, bodies, numbers):
    """Do that call on the bodies; give back its answer."""
    chosen = ACTS[call]
    return chosen(bodies, numbers)

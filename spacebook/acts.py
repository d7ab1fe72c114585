"""What each call does to the four bodies, and what it answers.

An act is given the bodies and the numbers of its call, which are all as the
document wants them; but the bytes that read is given may be no form.
"""

from spacebook.bodies import (
    box_body, cell_body, first_number, has_cell, joined, marked, moved, numbers_of, place_of, turned,
)
from spacebook.form import read_body, written
from spacebook.layers import layer_bytes, shadow_bytes
from spacebook.likeness import alike_turns, least_turn, moves_into
from spacebook.parts import outer_face_count, part_counts
from spacebook.reach import filled, grown, pieces, reached, shrunk
from spacebook.ways import distance, line_places, nearest, shortest_way


def clear_body(bodies, numbers):
    bodies[numbers[0]] = 0
    return [0]


def tell_cell(bodies, numbers):
    o, x, y, z = numbers
    return [0, 1 if has_cell(bodies[o], x, y, z) else 0]


def set_cell(bodies, numbers):
    o, x, y, z, to = numbers
    bodies[o] = marked(bodies[o], cell_body(x, y, z), to)
    return [0]


def set_box(bodies, numbers):
    o = numbers[0]
    bodies[o] = marked(bodies[o], box_body(numbers[1:4], numbers[4:7]), numbers[7])
    return [0]


def join_bodies(bodies, numbers):
    o, p, table = numbers
    bodies[o] = joined(bodies[o], bodies[p], table)
    return [0]


def move_body(bodies, numbers):
    o, dx, dy, dz = numbers
    bodies[o] = moved(bodies[o], dx, dy, dz)
    return [0]


def turn_body(bodies, numbers):
    o, turn = numbers
    bodies[o] = turned(bodies[o], turn)
    return [0]


def grow_body(bodies, numbers):
    o, kind, times = numbers
    for done in range(times):
        bodies[o] = grown(bodies[o], kind)
    return [0]


def shrink_body(bodies, numbers):
    o, kind, times = numbers
    for done in range(times):
        bodies[o] = shrunk(bodies[o], kind)
    return [0]


def fill_body(bodies, numbers):
    o, kind = numbers
    bodies[o] = filled(bodies[o], kind)
    return [0]


def keep_piece(bodies, numbers):
    o, kind, x, y, z = numbers
    bodies[o] = reached(cell_body(x, y, z), bodies[o], kind)
    return [0]


def tell_same(bodies, numbers):
    o, p = numbers
    return [0, 1 if bodies[o] == bodies[p] else 0]


def tell_count(bodies, numbers):
    return [0, len(numbers_of(bodies[numbers[0]]))]


def tell_count_in(bodies, numbers):
    inside = bodies[numbers[0]] & box_body(numbers[1:4], numbers[4:7])
    return [0, len(numbers_of(inside))]


def tell_counts(bodies, numbers):
    body = bodies[numbers[0]]
    return [0] + part_counts(body) + [outer_face_count(body)]


def tell_pieces(bodies, numbers):
    o, kind = numbers
    return [0] + [len(numbers_of(piece)) for piece in pieces(bodies[o], kind)]


def tell_nth(bodies, numbers):
    o, kind, k = numbers
    parted = pieces(bodies[o], kind)
    if k >= len(parted):
        return [-3]
    return [0] + list(place_of(first_number(parted[k]))) + [len(numbers_of(parted[k]))]


def tell_near(bodies, numbers):
    body = bodies[numbers[0]]
    if body == 0:
        return [-3]
    place = numbers[1:4]
    found = nearest(body, place)
    return [0, distance(place, found)] + list(found)


def tell_way(bodies, numbers):
    o, x0, y0, z0, x1, y1, z1 = numbers
    places = shortest_way(bodies[o], cell_body(x0, y0, z0), cell_body(x1, y1, z1))
    if len(places) == 0:
        return [-3]
    answer = [0, len(places) - 1]
    for place in places:
        answer.extend(place)
    return answer


def tell_line(bodies, numbers):
    body = bodies[numbers[0]]
    answer = [0]
    for x, y, z in line_places(numbers[1:4], numbers[4:7]):
        answer.extend([x, y, z, 1 if has_cell(body, x, y, z) else 0])
    return answer


def tell_slice(bodies, numbers):
    o, axis, w = numbers
    return [0] + layer_bytes(bodies[o], axis, w)


def tell_shadow(bodies, numbers):
    o, axis = numbers
    return [0] + shadow_bytes(bodies[o], axis)


def write_form(bodies, numbers):
    return [0] + written(bodies[numbers[0]])


def read_form(bodies, numbers):
    body = read_body(numbers[2:])
    if body is None:
        return [-2]
    bodies[numbers[0]] = body
    return [0]


def tell_alike(bodies, numbers):
    return [0] + alike_turns(bodies[numbers[0]])


def turn_to_least(bodies, numbers):
    o = numbers[0]
    turn = least_turn(bodies[o])
    bodies[o] = turned(bodies[o], turn)
    return [0, turn]


def tell_find(bodies, numbers):
    o, p = numbers
    moves = moves_into(bodies[o], bodies[p])
    if len(moves) == 0:
        return [0, 0]
    return [0, len(moves)] + list(moves[0])


ACTS = {
    1: clear_body,
    2: tell_cell,
    3: set_cell,
    4: set_box,
    5: join_bodies,
    6: move_body,
    7: turn_body,
    8: grow_body,
    9: shrink_body,
    10: fill_body,
    11: keep_piece,
    12: tell_same,
    13: tell_count,
    14: tell_count_in,
    15: tell_counts,
    16: tell_pieces,
    17: tell_nth,
    18: tell_near,
    19: tell_way,
    20: tell_line,
    21: tell_slice,
    22: tell_shadow,
    23: write_form,
    24: read_form,
    25: tell_alike,
    26: turn_to_least,
    27: tell_find,
}


def act(call, bodies, numbers):
    """Do that call on the bodies; give back its answer."""
    chosen = ACTS[call]
    return chosen(bodies, numbers)

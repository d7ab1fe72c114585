"""What the tests share: lists of calls, and a plain model of the sets.

The model keeps each set as a Python set of places (x, y, z) and does what the
words tell cell by cell, so that it has nothing in common with the program.
"""

import functools
import itertools
import random

from spacebook.cells import answers

(CLEAR, CELL, SET, BOX, WITH, MOVE, TURN, GROW, SHRINK, FILL, KEEP, SAME, COUNT, IN) = range(1, 15)
(COUNTS, PIECES, NTH, NEAR, WAY, LINE, SLICE, SHADOW, WRITE, READ, ALIKE, LEAST, FIND) = range(15, 28)

KINDS = (0, 1, 2)
AXES = (0, 1, 2)
TURNS = range(48)
FAR = 4294967295
FULL = (BOX, 0, 0, 0, 0, 7, 7, 7, 1)
MOST_CALLS = 60
CUBE = [(x, y, z) for z in range(8) for y in range(8) for x in range(8)]
OUTSIDE = {place for place in CUBE if 0 in place or 7 in place}
FIRST_OF_TURN = ("xyz", "xzy", "yxz", "yzx", "zxy", "zyx")

# Four sets that differ, each without any likeness to itself turned.
FOUR_SETS = [
    (SET, 0, 1, 2, 3, 1), (SET, 0, 2, 2, 3, 1), (SET, 0, 1, 4, 3, 1), (SET, 0, 1, 2, 6, 1),
    (BOX, 1, 0, 1, 2, 3, 3, 3, 1), (SET, 1, 7, 7, 5, 1),
    (BOX, 2, 2, 2, 2, 6, 5, 4, 1), (SET, 2, 3, 3, 3, 0), (SET, 2, 7, 0, 0, 1),
    (BOX, 3, 0, 0, 0, 7, 7, 7, 1), (SET, 3, 1, 0, 0, 0),
]


def line(calls):
    """The one list that hands in those calls."""
    assert len(calls) <= MOST_CALLS
    return [number for call in calls for number in call]


def replies(calls):
    """The answer of each call, as a list of its own."""
    told = answers(line(calls))
    found, at = [], 0
    while at < len(told):
        assert told[at] >= 1
        found.append(told[at + 1:at + 1 + told[at]])
        at += 1 + told[at]
    assert at == len(told)
    assert len(found) == len(calls)
    return found


def last_reply(calls):
    return replies(calls)[-1]


def taken(making, o):
    """The places taken in set o behind those calls, asked cell by cell."""
    room = MOST_CALLS - len(making)
    found = set()
    for start in range(0, len(CUBE), room):
        asked = CUBE[start:start + room]
        told = replies(making + [(CELL, o) + place for place in asked])[len(making):]
        assert all(reply in ([0, 0], [0, 1]) for reply in told)
        found.update(place for place, reply in zip(asked, told) if reply == [0, 1])
    return found


def all_taken(making):
    """The places taken in each of the four sets."""
    return [taken(making, o) for o in range(4)]


def box(x0, y0, z0, x1, y1, z1):
    return {(x, y, z) for x, y, z in CUBE if x0 <= x <= x1 and y0 <= y <= y1 and z0 <= z <= z1}


def beside(place, kind):
    """The places beside that one, those outside the cube too."""
    steps = itertools.product((-1, 0, 1), repeat=3)
    wanted = [step for step in steps if 1 <= 3 - step.count(0) <= kind + 1]
    return [tuple(a + b for a, b in zip(place, step)) for step in wanted]


def model_grown(cells, kind):
    return {c for c in CUBE if c in cells or any(b in cells for b in beside(c, kind))}


def model_shrunk(cells, kind):
    return {c for c in cells if all(b in cells for b in beside(c, kind))}


def model_piece(cells, kind, place):
    if place not in cells:
        return set()
    found, waiting = {place}, [place]
    while waiting:
        for other in beside(waiting.pop(), kind):
            if other in cells and other not in found:
                found.add(other)
                waiting.append(other)
    return found


def model_filled(cells, kind):
    free = set(CUBE) - cells
    whole = set(cells)
    while free:
        room = model_piece(free, kind, min(free))
        free -= room
        if not room & OUTSIDE:
            whole |= room
    return whole


def model_turned(cells, t):
    turned = set()
    for x, y, z in cells:
        old = {"x": x, "y": y, "z": z}
        new = [old[letter] for letter in FIRST_OF_TURN[t // 8]]
        turned.add(tuple(7 - n if t >> bit & 1 else n for bit, n in enumerate(new)))
    return turned


def model_with(first, second, t):
    return {c for c in CUBE if t >> 2 * (c in first) + (c in second) & 1}


def model_moved(cells, dx, dy, dz):
    return {(x + dx, y + dy, z + dz) for x, y, z in cells} & set(CUBE)


def repeated(change, cells, kind, n):
    for _ in range(n):
        cells = change(cells, kind)
    return cells


def marked(cells, others, to):
    return cells | others if to else cells - others


def number(place):
    x, y, z = place
    return x + 8 * y + 64 * z


def in_order(cells):
    return sorted(cells, key=number)


def flat(rows):
    return [item for row in rows for item in row]


def is_part(cells, low, extent):
    """Whether a taken cell has that part: it begins at low and is extent long in each direction."""
    sides = [(a,) if long else (a - 1, a) for a, long in zip(low, extent)]
    return any(place in cells for place in itertools.product(*sides))


def model_counts(cells):
    """Each corner, edge, face and cell that there may be is looked at, whether a taken cell has it."""
    counts = [0, 0, 0, 0]
    for extent in itertools.product((0, 1), repeat=3):
        lows = itertools.product(*[range(9 - long) for long in extent])
        counts[sum(extent)] += sum(is_part(cells, low, extent) for low in lows)
    return counts + [sum(other not in cells for place in cells for other in beside(place, 0))]


def model_pieces(cells, kind):
    pieces, left = [], set(cells)
    while left:
        pieces.append(model_piece(left, kind, in_order(left)[0]))
        left -= pieces[-1]
    return pieces


def model_nth(cells, kind, k):
    pieces = model_pieces(cells, kind)
    if k >= len(pieces):
        return None
    return [*in_order(pieces[k])[0], len(pieces[k])]


def far_apart(place, other):
    return sum(abs(a - b) for a, b in zip(place, other))


def model_near(cells, *place):
    if not cells:
        return None
    found = min(cells, key=lambda other: (far_apart(place, other), number(other)))
    return [far_apart(place, found), *found]


def model_way(cells, *numbers):
    """The first by number go on first: so the first way that comes to a cell is the one told."""
    start, goal = numbers[:3], numbers[3:]
    ways = {start: [start]} if start in cells else {}
    waiting = list(ways)
    for place in waiting:
        for other in in_order(beside(place, 0)):
            if other in cells and other not in ways:
                ways[other] = ways[place] + [other]
                waiting.append(other)
    if goal not in ways:
        return None
    return [len(ways[goal]) - 1] + flat(ways[goal])


def model_line(cells, *numbers):
    a, b = numbers[:3], numbers[3:]
    n = max(abs(q - p) for p, q in zip(a, b))
    told = []
    for t in range(n + 1):
        # Half a cell counts as the next, towards the greater number.
        place = tuple(p + ((q - p) * t / n + 0.5) // 1 if n else p for p, q in zip(a, b))
        told += [int(p) for p in place] + [int(place in cells)]
    return told


def model_shadow(cells, axis):
    """The bytes in which the cells' numbers but that axis's are marked."""
    told = [0] * 8
    for u, v in {place[:axis] + place[axis + 1:] for place in cells}:
        told[v] += 2 ** u
    return told


def model_slice(cells, axis, w):
    return model_shadow({place for place in cells if place[axis] == w}, axis)


@functools.cache
def cube_of(corner, side):
    steps = itertools.product(range(side), repeat=3)
    return frozenset(tuple(a + b for a, b in zip(corner, step)) for step in steps)


@functools.cache
def eighths(corner, side):
    x, y, z = corner
    half = side // 2
    return [(x + dx, y + dy, z + dz) for dz in (0, half) for dy in (0, half) for dx in (0, half)]


def model_bits(cells, corner=(0, 0, 0), side=8):
    cube = cube_of(corner, side)
    if side == 1:
        return [int(corner in cells)]
    if not cube & cells:
        return [0, 0]
    if cube <= cells:
        return [1, 0]
    return [0, 1] + flat(model_bits(cells, part, side // 2) for part in eighths(corner, side))


def packed(bits):
    filled_up = bits + [0] * (-len(bits) % 8)
    return [sum(bit << at for at, bit in enumerate(filled_up[n:n + 8])) for n in range(0, len(filled_up), 8)]


def model_form(cells):
    return packed(model_bits(cells))


def model_cube(bits, corner, side):
    """The cells told by the bits, which are taken off; an error if they tell no cube of that side."""
    if side == 1:
        return {corner} if bits.pop(0) else set()
    head = (bits.pop(0), bits.pop(0))
    if head == (1, 1):
        raise ValueError("1 1")
    if head != (0, 1):
        return set(cube_of(corner, side)) if head == (1, 0) else set()
    cells = set().union(*[model_cube(bits, part, side // 2) for part in eighths(corner, side)])
    if len(cells) in (0, side ** 3):
        raise ValueError("none or all")
    return cells


def model_read(row):
    """The cells whose form the row is, or None."""
    if any(byte > 255 for byte in row):
        return None
    bits = [byte >> at & 1 for byte in row for at in range(8)]
    try:
        cells = model_cube(bits, (0, 0, 0), 8)
    except (ValueError, IndexError):
        return None
    return None if len(bits) > 7 or any(bits) else cells


def model_alike(cells):
    return [t for t in TURNS if model_turned(cells, t) == cells]


def model_least(cells):
    """The turn, and the cells turned by it."""
    return min(((t, model_turned(cells, t)) for t in TURNS), key=lambda pair: sum(2 ** number(c) for c in pair[1]))


def model_find(cells, part):
    if not part:
        return [0]
    steps = [step[::-1] for step in itertools.product(range(-7, 8), repeat=3)]
    moves = [step for step in steps if all(tuple(map(sum, zip(place, step))) in cells for place in part)]
    return [len(moves), *flat(moves[:1])]


TELLING = {
    CELL: lambda cells, *place: [int(place in cells)],
    COUNT: lambda cells: [len(cells)],
    IN: lambda cells, *corners: [len(cells & box(*corners))],
    COUNTS: model_counts,
    PIECES: lambda cells, kind: [len(piece) for piece in model_pieces(cells, kind)],
    NTH: model_nth,
    NEAR: model_near,
    WAY: model_way,
    LINE: model_line,
    SLICE: model_slice,
    SHADOW: model_shadow,
    WRITE: model_form,
    ALIKE: model_alike,
}

MAKING = {
    CLEAR: lambda cells: set(),
    SET: lambda cells, x, y, z, to: marked(cells, {(x, y, z)}, to),
    BOX: lambda cells, *rest: marked(cells, box(*rest[:6]), rest[6]),
    MOVE: model_moved,
    TURN: model_turned,
    GROW: lambda cells, kind, n: repeated(model_grown, cells, kind, n),
    SHRINK: lambda cells, kind, n: repeated(model_shrunk, cells, kind, n),
    FILL: model_filled,
    KEEP: lambda cells, kind, *place: model_piece(cells, kind, place),
}


def model_act(sets, call):
    """Do a call whose numbers are as told; give back what is told behind 0, or the refusal."""
    asked, o, *rest = call
    cells = sets[o]
    if asked in TELLING:
        told = TELLING[asked](cells, *rest)
        return -3 if told is None else told
    if asked == SAME:
        return [int(cells == sets[rest[0]])]
    if asked == FIND:
        return model_find(cells, sets[rest[0]])
    if asked == LEAST:
        turn, sets[o] = model_least(cells)
        return [turn]
    if asked == READ:
        found = model_read(rest[1:])
        sets[o] = cells if found is None else found
        return -2 if found is None else []
    sets[o] = model_with(cells, sets[rest[0]], rest[1]) if asked == WITH else MAKING[asked](cells, *rest)
    return []


# What each number behind a call's number may be at the most; None: all of them. (read's bytes stand behind these.)
LIMITS = {
    CLEAR: (3,), CELL: (3, 7, 7, 7), SET: (3, 7, 7, 7, 1), BOX: (3, 7, 7, 7, 7, 7, 7, 1), WITH: (3, 3, 15),
    MOVE: (3, None, None, None), TURN: (3, 47), GROW: (3, 2, 8), SHRINK: (3, 2, 8), FILL: (3, 2),
    KEEP: (3, 2, 7, 7, 7), SAME: (3, 3), COUNT: (3,), IN: (3, 7, 7, 7, 7, 7, 7),
    COUNTS: (3,), PIECES: (3, 2), NTH: (3, 2, None), NEAR: (3, 7, 7, 7), WAY: (3, 7, 7, 7, 7, 7, 7),
    LINE: (3, 7, 7, 7, 7, 7, 7), SLICE: (3, 2, 7), SHADOW: (3, 2), WRITE: (3,), READ: (3, None), ALIKE: (3,),
    LEAST: (3,), FIND: (3, 3),
}


def sets_among(call):
    """Where in the call's numbers a set stands."""
    return (0, 1) if call in (WITH, SAME, FIND) else (0,)


def model_refusal(call):
    wrong = [at for at, (most, handed_in) in enumerate(zip(LIMITS[call[0]], call[1:]))
             if most is not None and handed_in > most]
    if any(at in sets_among(call[0]) for at in wrong):
        return -1
    return -2 if wrong else 0


def model_reply(sets, call):
    refused = model_refusal(call)
    told = refused if refused else model_act(sets, call)
    return [0] + told if isinstance(told, list) else [told]


def model_replies(calls):
    sets = [set(), set(), set(), set()]
    return [model_reply(sets, call) for call in calls]


def reading(o, cells):
    """The call that makes set o of those cells."""
    form = model_form(cells)
    return (READ, o, len(form), *form)


def reply_of(cells, *call):
    """The answer of that call on set 0 of those cells."""
    return last_reply([reading(0, cells), call])


def written_sets(making):
    """What write tells of each of the four sets behind those calls."""
    return replies(making + [(WRITE, o) for o in range(4)])[len(making):]


def random_cells(chance, share):
    return {place for place in CUBE if chance.random() < share}


def winding_cells():
    """One long way without a branch: rows, that are joined at their ends, in layers, that are so, too."""
    cells = box(0, 0, 0, 7, 0, 0)
    for z in (0, 2, 4, 6):
        for y in (0, 2, 4, 6):
            cells |= box(0, y, z, 7, y, z)
        cells |= {(7, 1, z), (0, 3, z), (7, 5, z)}
    return cells | {(0, 6, 1), (0, 0, 3), (0, 6, 5)}


SAMPLES = {
    "empty": set(),
    "full": set(CUBE),
    "first cell": {(0, 0, 0)},
    "last cell": {(7, 7, 7)},
    "one within": {(5, 2, 3)},
    "rows' ends": {(7, 3, 3), (0, 4, 3), (7, 7, 4), (0, 0, 5)},
    "uneven": {(1, 2, 3), (2, 2, 3), (1, 4, 3), (1, 2, 6)},
    "chain": {(1, 1, 1), (2, 1, 1), (3, 2, 1), (4, 3, 2), (6, 6, 6)},
    "walls": OUTSIDE,
    "within the walls": set(CUBE) - OUTSIDE,
    "every other": {place for place in CUBE if sum(place) % 2 == 0},
    "two eighths": box(0, 0, 0, 3, 3, 3) | box(4, 4, 4, 7, 7, 7),
    "a small eighth": box(2, 4, 6, 3, 5, 7),
    "winding": winding_cells(),
    "few": random_cells(random.Random(11), 0.05),
    "half": random_cells(random.Random(12), 0.5),
    "most": random_cells(random.Random(13), 0.95),
}

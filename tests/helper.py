"""What the tests share: lists of calls, and a plain model of the sets.

The model keeps each set as a Python set of places (x, y, z) and does what the
words tell cell by cell, so that it has nothing in common with the program.
"""

import itertools

from spacebook.cells import answers

(CLEAR, CELL, SET, BOX, WITH, MOVE, TURN, GROW, SHRINK, FILL, KEEP, SAME, COUNT, IN) = range(1, 15)

KINDS = (0, 1, 2)
MOST_CALLS = 60
CUBE = [(x, y, z) for z in range(8) for y in range(8) for x in range(8)]
OUTSIDE = {place for place in CUBE if 0 in place or 7 in place}
FIRST_OF_TURN = ("xyz", "xzy", "yxz", "yzx", "zxy", "zyx")

# Four sets that differ, each without any likeness to itself turned.
FOUR_SETS = [
    (SET, 0, 1, 2, 3, 1), (SET, 0, 2, 2, 3, 1), (SET, 0, 1, 4, 3, 1), (SET, 0, 1, 2, 6, 1),
    (BOX, 1, 0, 1, 2, 3, 3, 3, 1), (SET, 1, 7, 7, 5, 1),
    (BOX, 2, 2, 2, 2, 6, 5, 4, 1), (SET, 2, 3, 3, 3, 0), (SET, 2, 7, 0, 0, 1),
    (BOX, 3, 0, 0, 0, 7, 7, 7, 1), (SET, 3, 1, 0, 0, 0),
]


def line(calls):
    """The one list that hands in those calls."""
    assert len(calls) <= MOST_CALLS
    return [number for call in calls for number in call]


def replies(calls):
    """The answer of each call, as a list of its own."""
    told = answers(line(calls))
    found, at = [], 0
    while at < len(told):
        assert told[at] >= 1
        found.append(told[at + 1:at + 1 + told[at]])
        at += 1 + told[at]
    assert at == len(told)
    assert len(found) == len(calls)
    return found


def last_reply(calls):
    return replies(calls)[-1]


def taken(making, o):
    """The places taken in set o behind those calls, asked cell by cell."""
    room = MOST_CALLS - len(making)
    found = set()
    for start in range(0, len(CUBE), room):
        asked = CUBE[start:start + room]
        told = replies(making + [(CELL, o) + place for place in asked])[len(making):]
        assert all(reply in ([0, 0], [0, 1]) for reply in told)
        found.update(place for place, reply in zip(asked, told) if reply == [0, 1])
    return found


def all_taken(making):
    """The places taken in each of the four sets."""
    return [taken(making, o) for o in range(4)]


def box(x0, y0, z0, x1, y1, z1):
    return {(x, y, z) for x, y, z in CUBE if x0 <= x <= x1 and y0 <= y <= y1 and z0 <= z <= z1}


def beside(place, kind):
    """The places beside that one, those outside the cube too."""
    steps = itertools.product((-1, 0, 1), repeat=3)
    wanted = [step for step in steps if 1 <= 3 - step.count(0) <= kind + 1]
    return [tuple(a + b for a, b in zip(place, step)) for step in wanted]


def model_grown(cells, kind):
    return {c for c in CUBE if c in cells or any(b in cells for b in beside(c, kind))}


def model_shrunk(cells, kind):
    return {c for c in cells if all(b in cells for b in beside(c, kind))}


def model_piece(cells, kind, place):
    if place not in cells:
        return set()
    found, waiting = {place}, [place]
    while waiting:
        for other in beside(waiting.pop(), kind):
            if other in cells and other not in found:
                found.add(other)
                waiting.append(other)
    return found


def model_filled(cells, kind):
    free = set(CUBE) - cells
    whole = set(cells)
    while free:
        room = model_piece(free, kind, min(free))
        free -= room
        if not room & OUTSIDE:
            whole |= room
    return whole


def model_turned(cells, t):
    turned = set()
    for x, y, z in cells:
        old = {"x": x, "y": y, "z": z}
        new = [old[letter] for letter in FIRST_OF_TURN[t // 8]]
        turned.add(tuple(7 - n if t >> bit & 1 else n for bit, n in enumerate(new)))
    return turned


def model_with(first, second, t):
    return {c for c in CUBE if t >> 2 * (c in first) + (c in second) & 1}


def model_moved(cells, dx, dy, dz):
    return {(x + dx, y + dy, z + dz) for x, y, z in cells} & set(CUBE)


def repeated(change, cells, kind, n):
    for _ in range(n):
        cells = change(cells, kind)
    return cells


def marked(cells, others, to):
    return cells | others if to else cells - others


def model_act(sets, call):
    """Do a call that nothing speaks against; answer what is told behind 0."""
    number, o, *rest = call
    cells = sets[o]
    if number == CELL:
        return [int(tuple(rest) in cells)]
    if number == SAME:
        return [int(cells == sets[rest[0]])]
    if number == COUNT:
        return [len(cells)]
    if number == IN:
        return [len(cells & box(*rest))]
    sets[o] = {
        CLEAR: lambda: set(),
        SET: lambda: marked(cells, {tuple(rest[:3])}, rest[3]),
        BOX: lambda: marked(cells, box(*rest[:6]), rest[6]),
        WITH: lambda: model_with(cells, sets[rest[0]], rest[1]),
        MOVE: lambda: model_moved(cells, *rest),
        TURN: lambda: model_turned(cells, rest[0]),
        GROW: lambda: repeated(model_grown, cells, *rest),
        SHRINK: lambda: repeated(model_shrunk, cells, *rest),
        FILL: lambda: model_filled(cells, rest[0]),
        KEEP: lambda: model_piece(cells, rest[0], tuple(rest[1:])),
    }[number]()
    return []


# What each number behind a call's number may be at the most; None: all of them.
LIMITS = {
    CLEAR: (3,), CELL: (3, 7, 7, 7), SET: (3, 7, 7, 7, 1), BOX: (3, 7, 7, 7, 7, 7, 7, 1), WITH: (3, 3, 15),
    MOVE: (3, None, None, None), TURN: (3, 47), GROW: (3, 2, 8), SHRINK: (3, 2, 8), FILL: (3, 2),
    KEEP: (3, 2, 7, 7, 7), SAME: (3, 3), COUNT: (3,), IN: (3, 7, 7, 7, 7, 7, 7),
}


def sets_among(call):
    """Where in the call's numbers a set stands."""
    return (0, 1) if call in (WITH, SAME) else (0,)


def model_refusal(call):
    wrong = [at for at, (most, number) in enumerate(zip(LIMITS[call[0]], call[1:]))
             if most is not None and number > most]
    if any(at in sets_among(call[0]) for at in wrong):
        return -1
    return -2 if wrong else 0


def model_replies(calls):
    sets = [set(), set(), set(), set()]
    told = []
    for call in calls:
        refused = model_refusal(call)
        told.append([refused] if refused else [0] + model_act(sets, call))
    return told

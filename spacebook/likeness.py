"""Turns by which a body stays or becomes least, and moves of one into another."""

from spacebook.bodies import full_body, moved, numbers_of, place_of, turned


def alike_turns(body):
    """The turns by which the body stays as it is, rising."""
    return [turn for turn in range(48) if turned(body, turn) == body]


def least_turn(body):
    """The least turn of those by which the body becomes the least number."""
    # Of equal ones min takes the first, and the turns rise.
    return min(list(range(48)), key=lambda turn: turned(body, turn))


def staying_steps(body, axis):
    """The steps along that axis by which nothing of the body is lost, rising."""
    column = [place_of(number)[axis] for number in numbers_of(body)]
    return list(range(-min(column), 8 - max(column)))


def moves_within(body):
    """The moves by which nothing of the body is lost: by dz, then dy, then dx."""
    moves = []
    for dz in staying_steps(body, 2):
        for dy in staying_steps(body, 1):
            for dx in staying_steps(body, 0):
                moves.append((dx, dy, dz))
    return moves


def moves_into(body, part):
    """The moves by which the part lies wholly in the body, in their order."""
    if part == 0:
        return []
    free = full_body() ^ body
    return [(dx, dy, dz) for dx, dy, dz in moves_within(part) if moved(part, dx, dy, dz) & free == 0]

"""The corners, edges and faces that a body's cells have."""

from spacebook.bodies import moved, numbers_of, place_of
from spacebook.reach import steps_beside


def part_counts(body):
    """How many corners, edges, faces, cells the cells have, each once."""
    counts = [0, 0, 0, 0]
    for part in all_parts(body):
        counts[sum([number % 2 for number in part])] += 1
    return counts


def all_parts(body):
    """The parts of all cells, each as three numbers, with the place doubled.

    A cell lies from an even number to the next in each direction, so a part's
    odd numbers tell in how many directions it stretches: 0 of a corner, 1 of
    an edge, 2 of a face, 3 of a cell.
    """
    found = {}
    for number in numbers_of(body):
        x, y, z = place_of(number)
        for across in range(27):
            part = (2 * x + across % 3, 2 * y + across // 3 % 3, 2 * z + across // 9)
            found[part] = True
    return list(found)


def outer_face_count(body):
    """How many faces lie between a taken cell and a place that isn't taken."""
    many = 0
    for dx, dy, dz in steps_beside(0):
        # A cell that none is moved to has a place behind it that isn't taken.
        many += len(numbers_of(body & ~moved(body, dx, dy, dz)))
    return many

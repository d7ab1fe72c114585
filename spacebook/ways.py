"""Distances, ways and lines between cells."""

from spacebook.bodies import first_number, numbers_of, place_of
from spacebook.reach import grown


def distance(place, other):
    """The differences of the places' numbers, added."""
    return sum([abs(a - b) for a, b in zip(place, other)])


def nearest(body, place):
    """The place of the cell nearest to that place; the body has one at least."""
    places = [place_of(number) for number in numbers_of(body)]
    # Of as near ones min takes the first, and they stand in order.
    return min(places, key=lambda other: distance(place, other))


def shells(body, start, goal):
    """The cells 0, 1, 2 .. steps from the goal, a body each, as far as the start.

    The last is empty if one can't come to the start.
    """
    last = goal & body
    found = last
    by_steps = [last]
    while last != 0 and last & start == 0:
        last = grown(last, 0) & body & ~found
        found |= last
        by_steps.append(last)
    return by_steps


def shortest_way(body, start, goal):
    """The places of the way told from start to goal; none if there is no way."""
    by_steps = shells(body, start, goal)
    if by_steps[-1] == 0:
        return []
    here = start
    places = [place_of(first_number(start))]
    for nearer in reversed(by_steps[:-1]):
        # Every cell one step nearer is on a shortest way: the lowest is the one told.
        number = first_number(grown(here, 0) & nearer)
        here = 1 << number
        places.append(place_of(number))
    return places


def line_places(first, second):
    """The places of the line from the first to the second."""
    steps = max([abs(b - a) for a, b in zip(first, second)])
    if steps == 0:
        return [first]
    return [line_place(first, second, step, steps) for step in range(steps + 1)]


def line_place(first, second, step, steps):
    """Where the line is behind that step of so many."""
    return [a + (2 * (b - a) * step + steps) // (2 * steps) for a, b in zip(first, second)]

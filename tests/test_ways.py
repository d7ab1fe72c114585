"""near, way, line: what is told of cells and the places between them."""

import itertools
import random
import unittest

from tests.helper import (
    BOX, CUBE, FULL, LINE, NEAR, OUTSIDE, SAMPLES, SET, WAY,
    beside, box, far_apart, in_order, last_reply, model_line, model_near, model_way, number, random_cells, reading,
    replies, reply_of,
)


class Near(unittest.TestCase):
    def test_itself(self):
        for name, cells in SAMPLES.items():
            for place in in_order(cells)[:40]:
                self.assertEqual(reply_of(cells, NEAR, 0, *place), [0, 0, *place])

    def test_one_cell_from_everywhere(self):
        for place in CUBE:
            wanted = [0, abs(place[0] - 5) + abs(place[1] - 2) + abs(place[2] - 3), 5, 2, 3]
            self.assertEqual(last_reply([(SET, 1, 5, 2, 3, 1), (NEAR, 1, *place)]), wanted)

    def test_the_differences_are_added(self):
        # By the greatest difference 3 3 3 would be as near, by the squares it would be nearer.
        self.assertEqual(reply_of({(3, 3, 3), (5, 0, 0)}, NEAR, 0, 0, 0, 0), [0, 5, 5, 0, 0])
        self.assertEqual(reply_of({(2, 2, 2), (5, 0, 0)}, NEAR, 0, 0, 0, 0), [0, 5, 5, 0, 0])
        self.assertEqual(reply_of({(2, 2, 2), (7, 0, 0)}, NEAR, 0, 0, 0, 0), [0, 6, 2, 2, 2])

    def test_of_as_near_ones_the_first(self):
        around = beside((3, 3, 3), 0)
        for many in range(1, 7):
            for cells in itertools.combinations(around, many):
                self.assertEqual(reply_of(set(cells), NEAR, 0, 3, 3, 3), [0, 1, *in_order(cells)[0]])

    def test_none_is_taken(self):
        for place in ((0, 0, 0), (3, 4, 5), (7, 7, 7)):
            self.assertEqual(last_reply([(NEAR, 2, *place)]), [-3])
            self.assertEqual(replies([FULL, (1, 0), (NEAR, 0, *place)])[-1], [-3])

    def test_full(self):
        for place in ((0, 0, 0), (3, 4, 5), (7, 7, 7)):
            self.assertEqual(last_reply([FULL, (NEAR, 0, *place)]), [0, 0, *place])

    def test_across_the_cube(self):
        self.assertEqual(reply_of({(7, 7, 7)}, NEAR, 0, 0, 0, 0), [0, 21, 7, 7, 7])
        self.assertEqual(reply_of({(0, 0, 0)}, NEAR, 0, 7, 7, 7), [0, 21, 0, 0, 0])

    def test_samples(self):
        chance = random.Random(31)
        for name, cells in SAMPLES.items():
            if cells:
                for place in chance.sample(CUBE, 20):
                    with self.subTest(name=name, place=place):
                        self.assertEqual(reply_of(cells, NEAR, 0, *place), [0] + model_near(cells, *place))


def way_of(cells, start, goal):
    """The cells of the way told, or None."""
    told = reply_of(cells, WAY, 0, *start, *goal)
    if told == [-3]:
        return None
    way = [tuple(told[at:at + 3]) for at in range(2, len(told), 3)]
    assert told[0] == 0 and told[1] == len(way) - 1 and len(told) == 2 + 3 * len(way)
    return way


def shortest_ways(cells, start, goal):
    """All shortest ways, found by trying every way of one step more."""
    ways = [[start]]
    seen = {start}
    while ways and not any(way[-1] == goal for way in ways):
        seen |= {way[-1] for way in ways}
        ways = [way + [other] for way in ways for other in beside(way[-1], 0) if other in cells and other not in seen]
    return [way for way in ways if way[-1] == goal]


class Way(unittest.TestCase):
    def test_from_a_cell_to_itself(self):
        for name, cells in SAMPLES.items():
            for place in in_order(cells)[:20] + in_order(cells)[-20:]:
                self.assertEqual(reply_of(cells, WAY, 0, *place, *place), [0, 0, *place])

    def test_one_step(self):
        for other in beside((3, 3, 3), 0):
            self.assertEqual(reply_of({(3, 3, 3), other}, WAY, 0, 3, 3, 3, *other), [0, 1, 3, 3, 3, *other])

    def test_over_an_edge_or_a_corner_there_is_none(self):
        for other in set(beside((3, 3, 3), 2)) - set(beside((3, 3, 3), 0)):
            self.assertEqual(reply_of({(3, 3, 3), other}, WAY, 0, 3, 3, 3, *other), [-3])

    def test_rows_ends_are_not_beside_one_another(self):
        for start, goal in itertools.permutations(SAMPLES["rows' ends"], 2):
            self.assertEqual(reply_of(SAMPLES["rows' ends"], WAY, 0, *start, *goal), [-3])

    def test_a_free_end(self):
        making = [FULL, (SET, 0, 3, 4, 5, 0)]
        for start, goal in (((3, 4, 5), (3, 4, 6)), ((3, 4, 6), (3, 4, 5)), ((3, 4, 5), (3, 4, 5))):
            self.assertEqual(last_reply(making + [(WAY, 0, *start, *goal)]), [-3])
        for start, goal in (((0, 0, 0), (0, 0, 0)), ((1, 2, 3), (4, 5, 6))):
            self.assertEqual(last_reply([(WAY, 0, *start, *goal)]), [-3])

    def test_of_shortest_ones_the_first(self):
        # x rises last, since a step along x has the lowest number; falling ones go by z first.
        self.assertEqual(last_reply([FULL, (WAY, 0, 1, 1, 1, 2, 2, 2)]), [0, 3, 1, 1, 1, 2, 1, 1, 2, 2, 1, 2, 2, 2])
        self.assertEqual(last_reply([FULL, (WAY, 0, 2, 2, 2, 1, 1, 1)]), [0, 3, 2, 2, 2, 2, 2, 1, 2, 1, 1, 1, 1, 1])
        self.assertEqual(last_reply([FULL, (WAY, 0, 1, 2, 1, 2, 1, 1)]), [0, 2, 1, 2, 1, 1, 1, 1, 2, 1, 1])
        self.assertEqual(last_reply([FULL, (WAY, 0, 2, 1, 1, 1, 2, 1)]), [0, 2, 2, 1, 1, 1, 1, 1, 1, 2, 1])

    def test_the_first_step_decides(self):
        # Two ways around a hole: the one that begins lower has the higher cells behind.
        cells = box(1, 1, 0, 3, 3, 0) - {(2, 2, 0)}
        self.assertEqual(way_of(cells, (1, 1, 0), (3, 3, 0)), [(1, 1, 0), (2, 1, 0), (3, 1, 0), (3, 2, 0), (3, 3, 0)])
        self.assertEqual(way_of(cells, (3, 3, 0), (1, 1, 0)), [(3, 3, 0), (3, 2, 0), (3, 1, 0), (2, 1, 0), (1, 1, 0)])
        self.assertEqual(way_of(cells, (1, 3, 0), (3, 1, 0)), [(1, 3, 0), (1, 2, 0), (1, 1, 0), (2, 1, 0), (3, 1, 0)])

    def test_a_dead_end_is_not_gone_into(self):
        # The lower first step leads to an end that does not join.
        cells = {(3, 3, 3), (3, 3, 2), (3, 3, 1), (4, 3, 3), (5, 3, 3), (5, 3, 2), (5, 3, 1)}
        self.assertEqual(way_of(cells, (3, 3, 3), (5, 3, 1)),
                         [(3, 3, 3), (4, 3, 3), (5, 3, 3), (5, 3, 2), (5, 3, 1)])

    def test_a_winding_way(self):
        cells = SAMPLES["winding"]
        self.assertEqual(len(cells), 8 * 16 + 3 * 4 + 3)
        way = way_of(cells, (7, 0, 6), (0, 0, 0))
        self.assertEqual((len(way), set(way)), (len(cells) - 7, cells - box(0, 0, 6, 6, 0, 6)))
        self.assertEqual(way_of(cells, (0, 0, 0), (7, 0, 6)), way[::-1])

    def test_sixty_long_ways(self):
        cells = SAMPLES["winding"]
        told = replies([reading(0, cells)] + [(WAY, 0, 0, 0, 0, 7, 0, 6)] * 59)[1:]
        self.assertEqual(told, [[0] + model_way(cells, 0, 0, 0, 7, 0, 6)] * 59)
        self.assertEqual(len(told[0]), 2 + 3 * (len(cells) - 7))

    def test_across_the_full_cube_and_over_its_walls(self):
        for cells in (set(CUBE), OUTSIDE):
            for start in ((0, 0, 0), (7, 7, 7), (0, 7, 0), (7, 0, 0), (7, 7, 0)):
                goal = tuple(7 - number for number in start)
                told = reply_of(cells, WAY, 0, *start, *goal)
                self.assertEqual(told[:2], [0, 21])
                self.assertEqual(told, [0] + model_way(cells, *start, *goal))

    def test_through_the_one_hole_of_a_wall(self):
        making = [FULL, (BOX, 0, 0, 0, 4, 7, 7, 4, 0), (SET, 0, 7, 6, 4, 1)]
        cells = (set(CUBE) - box(0, 0, 4, 7, 7, 4)) | {(7, 6, 4)}
        told = last_reply(making + [(WAY, 0, 0, 0, 0, 0, 0, 7)])
        self.assertEqual(told, [0] + model_way(cells, 0, 0, 0, 0, 0, 7))
        self.assertEqual(told[1], 7 + 2 * 13)
        self.assertEqual(last_reply(making + [(SET, 0, 7, 6, 4, 0), (WAY, 0, 0, 0, 0, 0, 0, 7)]), [-3])


class WaysAreShortest(unittest.TestCase):
    def test_of_all_shortest_ways_the_first(self):
        chance = random.Random(32)
        for _ in range(150):
            cells = {place for place in box(2, 3, 4, 5, 5, 6) if chance.random() < 0.75} | {(2, 3, 4)}
            start, goal = chance.choice(in_order(cells)), chance.choice(in_order(cells))
            ways = shortest_ways(cells, start, goal)
            wanted = min(ways, key=lambda way: [number(place) for place in way]) if ways else None
            with self.subTest(cells=cells, start=start, goal=goal):
                self.assertEqual(way_of(cells, start, goal), wanted)

    def test_each_step_goes_over_a_face_to_a_taken_cell(self):
        chance = random.Random(33)
        for _ in range(100):
            cells = random_cells(chance, chance.choice((0.4, 0.5, 0.6, 0.8)))
            start, goal = chance.sample(in_order(cells), 2)
            way = way_of(cells, start, goal)
            self.assertEqual(way is None, model_way(cells, *start, *goal) is None)
            if way is not None:
                self.assertEqual((way[0], way[-1]), (start, goal))
                self.assertTrue(set(way) <= cells)
                self.assertTrue(all(far_apart(a, b) == 1 for a, b in zip(way, way[1:])))

    def test_random_sets(self):
        chance = random.Random(34)
        for _ in range(200):
            cells = random_cells(chance, chance.choice((0.35, 0.4, 0.5, 0.6, 0.8, 0.95)))
            start, goal = chance.sample(CUBE, 2)
            wanted = model_way(cells, *start, *goal)
            with self.subTest(cells=cells, start=start, goal=goal):
                self.assertEqual(reply_of(cells, WAY, 0, *start, *goal), [-3] if wanted is None else [0] + wanted)


def line_of(start, goal):
    """The cells of the line, and the marks behind them, told of an empty set."""
    told = last_reply([(LINE, 0, *start, *goal)])
    assert told[0] == 0 and len(told) % 4 == 1
    return [tuple(told[at:at + 3]) for at in range(1, len(told), 4)], told[4::4]


class Line(unittest.TestCase):
    def test_from_a_cell_to_itself(self):
        for place in CUBE:
            told = replies([(SET, 0, *place, 1), (LINE, 0, *place, *place), (LINE, 1, *place, *place)])
            self.assertEqual(told[1:], [[0, *place, 1], [0, *place, 0]])

    def test_along_each_axis_both_ways(self):
        for axis in range(3):
            for first, second in ((0, 7), (7, 0), (2, 5), (5, 2), (3, 4), (4, 3)):
                start, goal = [6, 1, 4], [6, 1, 4]
                start[axis], goal[axis] = first, second
                way = range(first, second + 1) if first < second else range(first, second - 1, -1)
                wanted = [tuple(start[:axis] + [at] + start[axis + 1:]) for at in way]
                self.assertEqual(line_of(start, goal), (wanted, [0] * len(wanted)))

    def test_across(self):
        for signs in itertools.product((1, -1, 0), repeat=3):
            start = [0 if sign == 1 else 7 for sign in signs]
            goal = [at + 7 * sign for at, sign in zip(start, signs)]
            if any(signs):
                wanted = [tuple(at + sign * t for at, sign in zip(start, signs)) for t in range(8)]
                self.assertEqual(line_of(start, goal), (wanted, [0] * 8))

    def test_rounding(self):
        # A half goes towards the greater number, whichever way the line goes.
        for start, goal, wanted in (
                ((0, 0, 0), (2, 1, 0), [(0, 0, 0), (1, 1, 0), (2, 1, 0)]),
                ((2, 1, 0), (0, 0, 0), [(2, 1, 0), (1, 1, 0), (0, 0, 0)]),
                ((0, 1, 0), (2, 0, 0), [(0, 1, 0), (1, 1, 0), (2, 0, 0)]),
                ((0, 0, 3), (4, 2, 0), [(0, 0, 3), (1, 1, 2), (2, 1, 2), (3, 2, 1), (4, 2, 0)]),
                ((4, 2, 0), (0, 0, 3), [(4, 2, 0), (3, 2, 1), (2, 1, 2), (1, 1, 2), (0, 0, 3)]),
                ((1, 6, 7), (2, 0, 4), [(1, 6, 7), (1, 5, 7), (1, 4, 6), (2, 3, 6), (2, 2, 5), (2, 1, 5), (2, 0, 4)])):
            with self.subTest(start=start, goal=goal):
                self.assertEqual(line_of(start, goal)[0], wanted)

    def test_a_line_back_is_the_line_turned_round(self):
        chance = random.Random(35)
        for _ in range(100):
            start, goal = chance.choice(CUBE), chance.choice(CUBE)
            self.assertEqual(line_of(start, goal)[0], line_of(goal, start)[0][::-1])

    def test_what_is_taken_is_marked(self):
        cells = box(0, 0, 0, 7, 7, 2) | {(5, 5, 5)}
        self.assertEqual(reply_of(cells, LINE, 0, 1, 1, 1, 6, 6, 6),
                         [0, 1, 1, 1, 1, 2, 2, 2, 1, 3, 3, 3, 0, 4, 4, 4, 0, 5, 5, 5, 1, 6, 6, 6, 0])
        told = replies([reading(0, cells), (LINE, 0, 3, 7, 5, 6, 0, 0), (LINE, 1, 3, 7, 5, 6, 0, 0)])
        self.assertEqual(told[1][4::4], [0, 0, 0, 0, 1, 1, 1, 1])
        self.assertEqual(told[2][4::4], [0] * 8)

    def test_all_cells_from_some(self):
        for start in ((0, 0, 0), (7, 7, 7), (3, 4, 2), (7, 0, 5)):
            for goal in CUBE:
                with self.subTest(start=start, goal=goal):
                    self.assertEqual(last_reply([(LINE, 0, *start, *goal)]), [0] + model_line(set(), *start, *goal))

    def test_samples(self):
        chance = random.Random(36)
        for name, cells in SAMPLES.items():
            for _ in range(20):
                start, goal = chance.choice(CUBE), chance.choice(CUBE)
                with self.subTest(name=name, start=start, goal=goal):
                    self.assertEqual(reply_of(cells, LINE, 0, *start, *goal), [0] + model_line(cells, *start, *goal))


if __name__ == "__main__":
    unittest.main()

"""alike, least, find: what a set is like turned, and where another lies in it."""

import random
import unittest

from tests.helper import (
    ALIKE, BOX, COUNT, CUBE, FIND, FULL, LEAST, MOVE, OUTSIDE, SAME, SAMPLES, SET, TURN, TURNS, WITH, WRITE,
    box, last_reply, model_alike, model_find, model_form, model_least, model_moved, model_turned, number,
    random_cells, reading, replies, reply_of, taken,
)

# The table by which a set becomes a copy of the second.
COPY = 10


def random_sets(seed, many):
    chance = random.Random(seed)
    return [random_cells(chance, chance.choice((0.003, 0.01, 0.05, 0.5, 0.99))) for _ in range(many)]


class Alike(unittest.TestCase):
    def test_empty_full_and_walls(self):
        for making in ([], [FULL], [FULL, (BOX, 0, 1, 1, 1, 6, 6, 6, 0)]):
            self.assertEqual(last_reply(making + [(ALIKE, 0)]), [0, *TURNS])

    def test_by_none_but_0(self):
        for cells in (SAMPLES["uneven"], {(0, 1, 2)}, {(0, 0, 0), (0, 0, 1), (0, 2, 0)}):
            self.assertEqual(reply_of(cells, ALIKE, 0), [0, 0])

    def test_by_which(self):
        # A corner stays by the six orders of the axes, a box by what leaves its sides.
        self.assertEqual(reply_of({(0, 0, 0)}, ALIKE, 0), [0, 0, 8, 16, 24, 32, 40])
        self.assertEqual(reply_of({(7, 7, 7)}, ALIKE, 0), [0, 0, 8, 16, 24, 32, 40])
        self.assertEqual(reply_of({(7, 0, 0)}, ALIKE, 0), [0, 0, 8, 19, 29, 35, 45])
        self.assertEqual(reply_of(box(0, 0, 0, 7, 7, 3), ALIKE, 0), [0, 0, 1, 2, 3, 16, 17, 18, 19])
        self.assertEqual(reply_of(box(0, 0, 0, 3, 7, 7), ALIKE, 0), [0, 0, 2, 4, 6, 8, 10, 12, 14])
        self.assertEqual(reply_of(box(2, 1, 3, 5, 6, 4), ALIKE, 0), [0, 0, 1, 2, 3, 4, 5, 6, 7])

    def test_each_turn_of_the_list_leaves_the_set(self):
        for name, cells in SAMPLES.items():
            told = reply_of(cells, ALIKE, 0)[1:]
            self.assertEqual((told[0], told), (0, sorted(set(told))))
            for turn in TURNS:
                with self.subTest(name=name, turn=turn):
                    calls = [reading(0, cells), (WITH, 1, 0, COPY), (TURN, 1, turn), (SAME, 0, 1)]
                    self.assertEqual(last_reply(calls), [0, int(turn in told)])

    def test_samples(self):
        for name, cells in SAMPLES.items():
            with self.subTest(name=name):
                self.assertEqual(reply_of(cells, ALIKE, 0), [0] + model_alike(cells))

    def test_sets_that_are_like_themselves(self):
        for cells in random_sets(61, 3):
            for turn in TURNS:
                both = cells | model_turned(cells, turn)
                self.assertEqual(reply_of(both, ALIKE, 0), [0] + model_alike(both))

    def test_sixty_of_the_full_cube(self):
        self.assertEqual(replies([FULL] + [(ALIKE, 0)] * 59)[1:], [[0, *TURNS]] * 59)


class Least(unittest.TestCase):
    def test_one_cell(self):
        self.assertEqual(replies([(SET, 0, 7, 7, 7, 1), (LEAST, 0), (WRITE, 0)])[1:],
                         [[0, 7], [0] + model_form({(0, 0, 0)})])
        self.assertEqual(replies([(SET, 0, 0, 0, 0, 1), (LEAST, 0)])[1:], [[0, 0]])
        self.assertEqual(replies([(SET, 0, 0, 0, 7, 1), (LEAST, 0)])[1:], [[0, 4]])
        # 1 2 3 is least as 3 2 1, as 40 makes it; 0 5 6 as 2 1 0, by 46.
        self.assertEqual(replies([(SET, 0, 1, 2, 3, 1), (LEAST, 0)])[1:], [[0, 40]])
        self.assertEqual(taken([(SET, 0, 1, 2, 3, 1), (LEAST, 0)], 0), {(3, 2, 1)})
        self.assertEqual(taken([(SET, 0, 0, 5, 6, 1), (LEAST, 0)], 0), {(2, 1, 0)})

    def test_the_greatest_number_counts_most(self):
        # The last cell comes to 3 3 3, though the other then comes to 7 0 0, not to 0 0 0.
        self.assertEqual(taken([(SET, 0, 0, 0, 0, 1), (SET, 0, 3, 3, 4, 1), (LEAST, 0)], 0), {(3, 3, 3), (7, 0, 0)})
        self.assertEqual(taken([(BOX, 0, 0, 0, 0, 0, 0, 7, 1), (LEAST, 0)], 0), box(0, 0, 0, 7, 0, 0))
        self.assertEqual(taken([(BOX, 0, 5, 0, 0, 5, 7, 7, 1), (LEAST, 0)], 0), box(0, 0, 2, 7, 7, 2))

    def test_empty_and_full(self):
        self.assertEqual(replies([(LEAST, 0), (COUNT, 0)]), [[0, 0], [0, 0]])
        self.assertEqual(replies([FULL, (LEAST, 0), (COUNT, 0)])[1:], [[0, 0], [0, 512]])
        self.assertEqual(reply_of(OUTSIDE, LEAST, 0), [0, 0])

    def test_samples_and_once_more(self):
        for name, cells in list(SAMPLES.items()) + list(enumerate(random_sets(62, 20))):
            turn, least = model_least(cells)
            with self.subTest(name=name):
                told = replies([reading(0, cells), (LEAST, 0), (WRITE, 0), (LEAST, 0), (WRITE, 0)])[1:]
                self.assertEqual(told, [[0, turn], [0] + model_form(least)] + [[0, 0], [0] + model_form(least)])

    def test_by_the_least_turn_that_gives_it(self):
        for name in ("last cell", "uneven", "chain", "a small eighth"):
            wanted = [0] + model_form(model_least(SAMPLES[name])[1])
            for turn in TURNS:
                turned = model_turned(SAMPLES[name], turn)
                told, least = replies([reading(0, turned), (LEAST, 0), (WRITE, 0)])[1:]
                # Whichever way the set is turned, the same one is least.
                self.assertEqual(least, wanted)
                for lower in range(told[1] + 1):
                    again = last_reply([reading(0, turned), (TURN, 0, lower), (WRITE, 0)])
                    self.assertEqual(again == least, lower == told[1])

    def test_none_is_less(self):
        for cells in random_sets(63, 10):
            least = taken([reading(0, cells), (LEAST, 0)], 0)
            sums = [sum(1 << number(place) for place in model_turned(cells, turn)) for turn in TURNS]
            self.assertEqual(sum(1 << number(place) for place in least), min(sums))


def find_in(cells, part):
    return last_reply([reading(0, cells), reading(1, part), (FIND, 0, 1)])


class Find(unittest.TestCase):
    def test_of_a_set_in_itself(self):
        for name, cells in SAMPLES.items():
            with self.subTest(name=name):
                wanted = [0, 1, 0, 0, 0] if cells else [0, 0]
                self.assertEqual(reply_of(cells, FIND, 0, 0), wanted)
                self.assertEqual(find_in(cells, cells), wanted)

    def test_of_one_in_a_smaller_one(self):
        for name, cells in SAMPLES.items():
            if cells:
                self.assertEqual(find_in(cells - {max(cells)}, cells), [0, 0])
        self.assertEqual(find_in({(0, 0, 0)}, {(0, 0, 0), (1, 0, 0)}), [0, 0])

    def test_of_and_in_the_empty_set(self):
        for cells in SAMPLES.values():
            self.assertEqual(find_in(cells, set()), [0, 0])
            self.assertEqual(find_in(set(), cells), [0, 0])

    def test_of_one_cell(self):
        for name, cells in SAMPLES.items():
            for place in ((0, 0, 0), (7, 7, 7), (2, 5, 3)):
                first = min(cells, key=number, default=None)
                wanted = [len(cells), *[a - b for a, b in zip(first, place)]] if cells else [0]
                self.assertEqual(find_in(cells, {place}), [0] + wanted)

    def test_the_first_by_dz_then_dy_then_dx(self):
        part = {(3, 3, 3), (4, 3, 3)}
        cells = [box(0, 5, 5, 1, 5, 5), box(6, 0, 6, 7, 0, 6), box(5, 6, 5, 6, 6, 5), box(6, 5, 5, 7, 5, 5)]
        self.assertEqual(find_in(set().union(*cells), part), [0, 4, -3, 2, 2])
        self.assertEqual(find_in(set().union(*cells[1:]), part), [0, 3, 3, 2, 2])
        self.assertEqual(find_in(cells[1] | cells[2], part), [0, 2, 2, 3, 2])
        self.assertEqual(find_in(cells[1], part), [0, 1, 3, -3, 3])

    def test_nothing_of_it_is_lost(self):
        # Moved out of the cube, what is left of it would lie in the first set.
        self.assertEqual(find_in(box(0, 0, 0, 0, 7, 7), box(3, 3, 3, 4, 3, 3)), [0, 0])
        self.assertEqual(find_in(box(7, 0, 0, 7, 7, 7), box(3, 3, 3, 4, 3, 3)), [0, 0])
        # Nor does a row's end go over into the next row.
        self.assertEqual(find_in({(7, 3, 3), (0, 4, 3)}, {(3, 3, 3), (4, 3, 3)}), [0, 0])
        self.assertEqual(find_in({(2, 7, 3), (2, 0, 4)}, {(2, 3, 3), (2, 4, 3)}), [0, 0])

    def test_full(self):
        self.assertEqual(find_in(set(CUBE), {(7, 7, 7)}), [0, 512, -7, -7, -7])
        self.assertEqual(find_in(set(CUBE), {(0, 0, 0)}), [0, 512, 0, 0, 0])
        self.assertEqual(find_in(set(CUBE), box(2, 3, 4, 3, 5, 7)), [0, 7 * 6 * 5, -2, -3, -4])
        self.assertEqual(find_in(set(CUBE), {(0, 0, 0), (7, 7, 7)}), [0, 1, 0, 0, 0])
        self.assertEqual(find_in(OUTSIDE, box(1, 1, 1, 6, 6, 6)), [0, 0])
        self.assertEqual(find_in(OUTSIDE, box(1, 1, 1, 6, 6, 1)), [0, 18, -1, -1, -1])

    def test_neither_is_changed(self):
        making = [reading(0, SAMPLES["half"]), reading(1, SAMPLES["chain"])]
        told = replies(making + [(FIND, 0, 1), (WRITE, 0), (WRITE, 1)])
        self.assertEqual(told[3:], [[0] + model_form(SAMPLES["half"]), [0] + model_form(SAMPLES["chain"])])

    def test_random_sets(self):
        chance = random.Random(64)
        for _ in range(60):
            cells = random_cells(chance, chance.choice((0.3, 0.6, 0.9, 0.97)))
            part = {place for place in box(2, 4, 3, 4, 5, 5) if chance.random() < chance.choice((0.1, 0.4, 0.8))}
            with self.subTest(cells=cells, part=part):
                self.assertEqual(find_in(cells, part), [0] + model_find(cells, part))

    def test_the_move_told_is_one(self):
        chance = random.Random(65)
        for _ in range(40):
            cells = random_cells(chance, 0.7)
            part = set(chance.sample(sorted(box(3, 3, 3, 5, 5, 5)), 4))
            told = find_in(cells, part)
            if told[1] > 0:
                self.assertTrue(model_moved(part, *told[2:]) <= cells)
                making = [reading(0, cells), reading(1, part), (MOVE, 1, *told[2:])]
                asked = [(COUNT, 1), (WITH, 1, 0, 4), (COUNT, 1)]
                self.assertEqual(replies(making + asked)[3::2], [[0, 4], [0, 0]])


if __name__ == "__main__":
    unittest.main()

"""slice and shadow: the cube's layers, and what lies along an axis."""

import random
import unittest

from tests.helper import (
    AXES, BOX, CUBE, FULL, SAMPLES, SET, SHADOW, SLICE,
    last_reply, model_shadow, model_slice, random_cells, reading, replies, reply_of,
)


class Slice(unittest.TestCase):
    def test_which_numbers_are_left(self):
        making = [(SET, 0, 1, 2, 4, 1)]
        for axis, w, byte, bit in ((0, 1, 4, 2), (1, 2, 4, 1), (2, 4, 2, 1)):
            wanted = [0] * 8
            wanted[byte] = 1 << bit
            for at in range(8):
                with self.subTest(axis=axis, at=at):
                    told = last_reply(making + [(SLICE, 0, axis, at)])
                    self.assertEqual(told, [0] + (wanted if at == w else [0] * 8))

    def test_every_cell_alone(self):
        for place in CUBE:
            asked = [(SLICE, 3, axis, place[axis]) for axis in AXES] + [(SHADOW, 3, axis) for axis in AXES]
            told = replies([(SET, 3, *place, 1)] + asked)[1:]
            x, y, z = place
            wanted = [[0] + [1 << u if v == at else 0 for at in range(8)] for u, v in ((y, z), (x, z), (x, y))]
            self.assertEqual(told, wanted * 2)

    def test_empty_and_full(self):
        for axis in AXES:
            for w in range(8):
                self.assertEqual(last_reply([(SLICE, 0, axis, w)]), [0] + [0] * 8)
                self.assertEqual(last_reply([FULL, (SLICE, 0, axis, w)]), [0] + [255] * 8)

    def test_a_box(self):
        making = [(BOX, 0, 1, 2, 3, 3, 7, 5, 1)]
        for axis, w, wanted in ((0, 2, [0, 0, 0, 252, 252, 252, 0, 0]), (1, 7, [0, 0, 0, 14, 14, 14, 0, 0]),
                                (2, 3, [0, 0, 14, 14, 14, 14, 14, 14]), (0, 0, [0] * 8), (0, 4, [0] * 8),
                                (1, 1, [0] * 8), (2, 2, [0] * 8), (2, 6, [0] * 8)):
            with self.subTest(axis=axis, w=w):
                self.assertEqual(last_reply(making + [(SLICE, 0, axis, w)]), [0] + wanted)

    def test_samples(self):
        for name, cells in SAMPLES.items():
            asked = [(SLICE, 0, axis, w) for axis in AXES for w in range(8)]
            with self.subTest(name=name):
                told = replies([reading(0, cells)] + asked)[1:]
                self.assertEqual(told, [[0] + model_slice(cells, axis, w) for nought, o, axis, w in asked])


class Shadow(unittest.TestCase):
    def test_a_box(self):
        making = [(BOX, 0, 1, 2, 3, 3, 7, 5, 1)]
        for axis, wanted in ((0, [0, 0, 0, 252, 252, 252, 0, 0]), (1, [0, 0, 0, 14, 14, 14, 0, 0]),
                             (2, [0, 0, 14, 14, 14, 14, 14, 14])):
            self.assertEqual(last_reply(making + [(SHADOW, 0, axis)]), [0] + wanted)

    def test_cells_behind_one_another_count_once(self):
        making = [(SET, 0, 0, 3, 6, 1), (SET, 0, 7, 3, 6, 1), (SET, 0, 4, 2, 6, 1)]
        self.assertEqual(last_reply(making + [(SHADOW, 0, 0)]), [0, 0, 0, 0, 0, 0, 0, 12, 0])
        self.assertEqual(last_reply(making + [(SHADOW, 0, 1)]), [0, 0, 0, 0, 0, 0, 0, 145, 0])
        self.assertEqual(last_reply(making + [(SHADOW, 0, 2)]), [0, 0, 0, 16, 129, 0, 0, 0, 0])

    def test_empty_and_full(self):
        for axis in AXES:
            self.assertEqual(last_reply([(SHADOW, 1, axis)]), [0] + [0] * 8)
            self.assertEqual(last_reply([FULL, (SHADOW, 0, axis)]), [0] + [255] * 8)

    def test_the_outside(self):
        # Each face of the cube shades it wholly.
        for axis in AXES:
            for w in (0, 7):
                first, last = [0, 0, 0], [7, 7, 7]
                first[axis] = last[axis] = w
                told = replies([(BOX, 2, *first, *last, 1)] + [(SHADOW, 2, other) for other in AXES])[1:]
                self.assertEqual(told[axis], [0] + [255] * 8)
                self.assertEqual([sum(told[other]) < 255 * 8 for other in AXES], [other != axis for other in AXES])

    def test_samples(self):
        for name, cells in SAMPLES.items():
            told = replies([reading(0, cells)] + [(SHADOW, 0, axis) for axis in AXES])[1:]
            with self.subTest(name=name):
                self.assertEqual(told, [[0] + model_shadow(cells, axis) for axis in AXES])

    def test_all_slices_laid_on_one_another(self):
        chance = random.Random(41)
        for _ in range(20):
            cells = random_cells(chance, chance.choice((0.02, 0.05, 0.1, 0.3)))
            for axis in AXES:
                laid = [0] * 8
                for w in range(8):
                    laid = [a | b for a, b in zip(laid, reply_of(cells, SLICE, 0, axis, w)[1:])]
                self.assertEqual(reply_of(cells, SHADOW, 0, axis), [0] + laid)


if __name__ == "__main__":
    unittest.main()

"""counts, pieces, nth: the parts of the cells, and the pieces they fall into."""

import random
import unittest

from tests.helper import (
    BOX, COUNT, COUNTS, CUBE, FAR, FILL, FULL, IN, KEEP, KINDS, NTH, PIECES, SAMPLES, SET, TURN, TURNS, WITH, WRITE,
    box, in_order, last_reply, model_counts, model_nth, model_piece, model_pieces, random_cells, reading, replies,
    reply_of, taken,
)


class Counts(unittest.TestCase):
    def test_one_cell_wherever_it_lies(self):
        for place in CUBE:
            self.assertEqual(last_reply([(SET, 2, *place, 1), (COUNTS, 2)]), [0, 8, 12, 6, 1, 6])

    def test_what_two_cells_have_in_common(self):
        for other, wanted in (((4, 3, 3), [12, 20, 11, 2, 10]), ((3, 2, 3), [12, 20, 11, 2, 10]),
                              ((3, 3, 4), [12, 20, 11, 2, 10]), ((4, 4, 3), [14, 23, 12, 2, 12]),
                              ((2, 3, 4), [14, 23, 12, 2, 12]), ((3, 4, 2), [14, 23, 12, 2, 12]),
                              ((4, 4, 4), [15, 24, 12, 2, 12]), ((2, 4, 2), [15, 24, 12, 2, 12]),
                              ((5, 3, 3), [16, 24, 12, 2, 12]), ((3, 3, 1), [16, 24, 12, 2, 12])):
            with self.subTest(other=other):
                self.assertEqual(reply_of({(3, 3, 3), other}, COUNTS, 0), [0] + wanted)

    def test_rows_ends_have_nothing_in_common(self):
        self.assertEqual(reply_of(SAMPLES["rows' ends"], COUNTS, 0), [0, 32, 48, 24, 4, 24])

    def test_empty_and_full(self):
        self.assertEqual(last_reply([(COUNTS, 3)]), [0, 0, 0, 0, 0, 0])
        self.assertEqual(last_reply([FULL, (COUNTS, 0)]), [0, 729, 1944, 1728, 512, 384])

    def test_a_hollow_has_outer_faces_too(self):
        making = [(BOX, 1, 2, 3, 4, 4, 5, 6, 1), (SET, 1, 3, 4, 5, 0)]
        self.assertEqual(last_reply(making + [(COUNTS, 1)]), [0, 64, 144, 108, 26, 60])
        self.assertEqual(last_reply(making + [(FILL, 1, 0), (COUNTS, 1)]), [0, 64, 144, 108, 27, 54])

    def test_at_the_outside(self):
        for place in ((0, 0, 0), (6, 0, 0), (0, 6, 0), (0, 0, 6), (6, 6, 6)):
            block = box(*place, *[number + 1 for number in place])
            self.assertEqual(reply_of(block, COUNTS, 0), [0, 27, 54, 36, 8, 24])

    def test_samples(self):
        for name, cells in SAMPLES.items():
            with self.subTest(name=name):
                self.assertEqual(reply_of(cells, COUNTS, 0), [0] + model_counts(cells))

    def test_random_sets(self):
        chance = random.Random(21)
        for _ in range(30):
            cells = random_cells(chance, chance.random())
            self.assertEqual(reply_of(cells, COUNTS, 0), [0] + model_counts(cells))

    def test_all_stay_by_every_turn(self):
        for name, cells in SAMPLES.items():
            told = [reply_of(cells, COUNTS, 0), [0, len(cells)]]
            for turn in TURNS:
                with self.subTest(name=name, turn=turn):
                    turned = replies([reading(0, cells), (TURN, 0, turn), (COUNTS, 0), (COUNT, 0)])
                    self.assertEqual(turned[2:], told)


class Pieces(unittest.TestCase):
    def test_by_each_kind(self):
        for kind, wanted in ((0, [2, 1, 1, 1]), (1, [3, 1, 1]), (2, [4, 1])):
            self.assertEqual(reply_of(SAMPLES["chain"], PIECES, 0, kind), [0] + wanted)

    def test_empty_and_full(self):
        for kind in KINDS:
            self.assertEqual(last_reply([(PIECES, 0, kind)]), [0])
            self.assertEqual(last_reply([FULL, (PIECES, 0, kind)]), [0, 512])

    def test_in_the_order_of_their_first_cells(self):
        # The greater piece has the lower first cell, though the most of its cells lie behind.
        making = [(BOX, 0, 1, 0, 0, 1, 7, 7, 1), (BOX, 0, 3, 0, 0, 3, 0, 1, 1),
                  (SET, 0, 5, 0, 0, 1), (SET, 0, 7, 7, 0, 1)]
        for kind in KINDS:
            self.assertEqual(last_reply(making + [(PIECES, 0, kind)]), [0, 64, 2, 1, 1])

    def test_rows_ends_are_not_beside_one_another(self):
        for kind in KINDS:
            self.assertEqual(reply_of(SAMPLES["rows' ends"], PIECES, 0, kind), [0, 1, 1, 1, 1])

    def test_every_other_cell(self):
        self.assertEqual(reply_of(SAMPLES["every other"], PIECES, 0, 0), [0] + [1] * 256)
        self.assertEqual(reply_of(SAMPLES["every other"], PIECES, 0, 1), [0, 256])
        self.assertEqual(reply_of(SAMPLES["every other"], PIECES, 0, 2), [0, 256])

    def test_sixty_long_answers(self):
        making = [reading(0, SAMPLES["every other"])]
        self.assertEqual(replies(making + [(PIECES, 0, 0)] * 59)[1:], [[0] + [1] * 256] * 59)

    def test_a_long_piece(self):
        for kind in KINDS:
            self.assertEqual(reply_of(SAMPLES["winding"], PIECES, 0, kind), [0, len(SAMPLES["winding"])])

    def test_samples(self):
        for name, cells in SAMPLES.items():
            for kind in KINDS:
                with self.subTest(name=name, kind=kind):
                    wanted = [len(piece) for piece in model_pieces(cells, kind)]
                    self.assertEqual(reply_of(cells, PIECES, 0, kind), [0] + wanted)
                    self.assertEqual(sum(wanted), len(cells))


class PiecesPartTheTakenCells(unittest.TestCase):
    def test_counts_together_are_the_count(self):
        chance = random.Random(22)
        for _ in range(60):
            cells = random_cells(chance, chance.random())
            for kind in KINDS:
                told = replies([reading(0, cells), (PIECES, 0, kind), (COUNT, 0)])
                self.assertEqual(sum(told[1][1:]), told[2][1])

    def test_each_piece_is_what_keep_keeps(self):
        for name in ("chain", "few", "half", "two eighths"):
            cells = SAMPLES[name]
            for kind in KINDS:
                many = len(reply_of(cells, PIECES, 0, kind)) - 1
                left = set(cells)
                for k in range(min(many, 12)):
                    x, y, z, size = reply_of(cells, NTH, 0, kind, k)[1:]
                    self.assertEqual([x, y, z], list(in_order(left)[0]))
                    piece = taken([reading(0, cells), (KEEP, 0, kind, x, y, z)], 0)
                    self.assertEqual(len(piece), size)
                    self.assertEqual(piece, model_piece(cells, kind, (x, y, z)))
                    self.assertTrue(piece <= left)
                    left -= piece

    def test_first_cells_rise(self):
        chance = random.Random(23)
        for _ in range(8):
            cells = random_cells(chance, chance.choice((0.1, 0.2, 0.3)))
            for kind in KINDS:
                sizes = reply_of(cells, PIECES, 0, kind)[1:]
                asked = [(NTH, 0, kind, k) for k in range(min(len(sizes), 55))]
                told = replies([reading(0, cells)] + asked)[1:]
                firsts = [x + 8 * y + 64 * z for nought, x, y, z, size in told]
                self.assertEqual(firsts, sorted(set(firsts)))
                self.assertEqual([reply[4] for reply in told], sizes[:55])

    def test_what_is_filled_is_left_as_it_is(self):
        chance = random.Random(24)
        for _ in range(40):
            cells = random_cells(chance, chance.choice((0.5, 0.7, 0.8, 0.9, 0.95)))
            for kind in KINDS:
                filling = [(FILL, 0, kind), (COUNT, 0), (WRITE, 0), (FILL, 0, kind), (WRITE, 0)]
                told = replies([reading(0, cells)] + filling)
                self.assertEqual(told[3], told[5])
                self.assertGreaterEqual(told[2][1], len(cells))

    def test_what_is_filled_has_no_hollows(self):
        # Its free cells fall into pieces that all come to the outside.
        chance = random.Random(25)
        for _ in range(10):
            cells = random_cells(chance, chance.choice((0.7, 0.8, 0.9, 0.95)))
            for kind in KINDS:
                making = [reading(0, cells), (FILL, 0, kind), (WITH, 0, 0, 1)]
                sizes = last_reply(making + [(PIECES, 0, kind)])[1:]
                for k in range(len(sizes)):
                    x, y, z, size = last_reply(making + [(NTH, 0, kind, k)])[1:]
                    within = last_reply(making + [(KEEP, 0, kind, x, y, z), (IN, 0, 1, 1, 1, 6, 6, 6)])
                    self.assertLess(within[1], size)


class Nth(unittest.TestCase):
    def test_by_each_kind(self):
        for kind, wanted in ((0, [[1, 1, 1, 2], [3, 2, 1, 1], [4, 3, 2, 1], [6, 6, 6, 1]]),
                             (1, [[1, 1, 1, 3], [4, 3, 2, 1], [6, 6, 6, 1]]), (2, [[1, 1, 1, 4], [6, 6, 6, 1]])):
            for k in range(6):
                with self.subTest(kind=kind, k=k):
                    due = [0] + wanted[k] if k < len(wanted) else [-3]
                    self.assertEqual(reply_of(SAMPLES["chain"], NTH, 0, kind, k), due)

    def test_empty_and_full(self):
        for kind in KINDS:
            for k in (0, 1, 255, 511, 512, 2147483648, FAR):
                self.assertEqual(last_reply([(NTH, 0, kind, k)]), [-3])
                self.assertEqual(last_reply([FULL, (NTH, 0, kind, k)]), [0, 0, 0, 0, 512] if k == 0 else [-3])

    def test_every_other_cell(self):
        cells = in_order(SAMPLES["every other"])
        for k in (0, 1, 2, 127, 128, 254, 255):
            self.assertEqual(reply_of(set(cells), NTH, 0, 0, k), [0, *cells[k], 1])
        self.assertEqual(reply_of(set(cells), NTH, 0, 0, 256), [-3])

    def test_samples(self):
        for name, cells in SAMPLES.items():
            for kind in KINDS:
                for k in (0, 1, 2, 5, 20):
                    with self.subTest(name=name, kind=kind, k=k):
                        wanted = model_nth(cells, kind, k)
                        self.assertEqual(reply_of(cells, NTH, 0, kind, k), [-3] if wanted is None else [0] + wanted)


if __name__ == "__main__":
    unittest.main()

"""write and read: the one form of a set, and what is none."""

import itertools
import random
import unittest

from tests.helper import (
    BOX, COUNT, CUBE, FAR, FOUR_SETS, FULL, READ, SAME, SAMPLES, SET, WRITE,
    box, last_reply, model_form, model_read, packed, random_cells, reading, replies, taken, written_sets,
)

NONE, ALL, HALVES = [0, 0], [1, 0], [0, 1]


def read_call(o, row):
    return (READ, o, len(row), *row)


def bits_of(row):
    return [byte >> at & 1 for byte in row for at in range(8)]


def sets_of_eighths():
    """A set for each choice of whole eighths, and the bits that tell it but for none and all."""
    for chosen in itertools.product((0, 1), repeat=8):
        cells = set()
        for at, is_chosen in enumerate(chosen):
            x, y, z = 4 * (at % 2), 4 * (at // 2 % 2), 4 * (at // 4)
            cells |= box(x, y, z, x + 3, y + 3, z + 3) if is_chosen else set()
        yield cells, HALVES + [bit for is_chosen in chosen for bit in (is_chosen, 0)]


class Write(unittest.TestCase):
    def test_empty_and_full(self):
        self.assertEqual(last_reply([(WRITE, 3)]), [0, 0])
        self.assertEqual(last_reply([FULL, (WRITE, 0)]), [0, 1])

    def test_one_cell(self):
        # 0 1 for the sides 8, 4 and 2, each with its own eighth first or last, and 0 0 for the other seven.
        first = HALVES + HALVES + HALVES + [1] + [0] * 7 + NONE * 14
        self.assertEqual(last_reply([(SET, 0, 0, 0, 0, 1), (WRITE, 0)]), [0] + packed(first))
        self.assertEqual(packed(first), [106, 0, 0, 0, 0, 0])
        last = HALVES + NONE * 7 + HALVES + NONE * 7 + HALVES + [0] * 7 + [1]
        self.assertEqual(last_reply([(SET, 0, 7, 7, 7, 1), (WRITE, 0)]), [0] + packed(last))
        self.assertEqual(packed(last), [2, 0, 2, 0, 2, 2])

    def test_the_order_of_the_eighths(self):
        for at, corner in enumerate(((0, 0, 0), (4, 0, 0), (0, 4, 0), (4, 4, 0),
                                     (0, 0, 4), (4, 0, 4), (0, 4, 4), (4, 4, 4))):
            making = [(BOX, 0, *corner, *[number + 3 for number in corner], 1)]
            bits = HALVES + NONE * at + ALL + NONE * (7 - at)
            self.assertEqual(last_reply(making + [(WRITE, 0)]), [0] + packed(bits))

    def test_the_order_of_the_last_eight(self):
        for at, place in enumerate(((2, 4, 6), (3, 4, 6), (2, 5, 6), (3, 5, 6),
                                    (2, 4, 7), (3, 4, 7), (2, 5, 7), (3, 5, 7))):
            cells = [0] * at + [1] + [0] * (7 - at)
            # Of side 4 it is the seventh eighth (0 4 4), in it of side 2 the sixth (2 4 6).
            bits = HALVES + NONE * 6 + HALVES + NONE * 5 + HALVES + cells + NONE * 2 + NONE
            self.assertEqual(last_reply([(SET, 1, *place, 1), (WRITE, 1)]), [0] + packed(bits))

    def test_the_longest(self):
        told = last_reply([reading(0, SAMPLES["every other"]), (WRITE, 0)])
        self.assertEqual(len(told), 1 + 83)
        # 2 + 8 (2 + 8 (2 + 8)) bits are 658, in 83 bytes.
        one = HALVES + [1, 0, 0, 1, 0, 1, 1, 0]
        self.assertEqual(told[1:], packed(HALVES + (HALVES + one * 8) * 8))

    def test_sixty_long_answers(self):
        row = model_form(SAMPLES["every other"])
        self.assertEqual(replies([reading(0, SAMPLES["every other"])] + [(WRITE, 0)] * 59), [[0]] + [[0] + row] * 59)

    def test_whole_eighths(self):
        for cells, bits in sets_of_eighths():
            told = last_reply([reading(0, cells), (WRITE, 0)])
            if len(cells) not in (0, 512):
                self.assertEqual(told, [0] + packed(bits))

    def test_samples(self):
        for name, cells in SAMPLES.items():
            making = [(SET, 0, *place, 1) for place in cells]
            if len(making) < 60:
                with self.subTest(name=name):
                    self.assertEqual(last_reply(making + [(WRITE, 0)]), [0] + model_form(cells))


class Read(unittest.TestCase):
    def test_samples(self):
        for name, cells in SAMPLES.items():
            for o in range(4):
                with self.subTest(name=name, o=o):
                    self.assertEqual(taken([read_call(o, model_form(cells))], o), cells)

    def test_in_the_place_of_what_was_there(self):
        for name in ("empty", "uneven", "half", "full"):
            for o in range(4):
                wanted = written_sets(FOUR_SETS)
                wanted[o] = [0] + model_form(SAMPLES[name])
                self.assertEqual(written_sets(FOUR_SETS + [reading(o, SAMPLES[name])]), wanted)

    def test_sixty_calls(self):
        calls = [reading(n % 4, SAMPLES["every other"]) for n in range(59)]
        self.assertEqual(replies(calls + [(COUNT, 2)]), [[0]] * 59 + [[0, 256]])


class WhatIsWrittenIsReadAsTheSame(unittest.TestCase):
    def told_again(self, cells):
        row = last_reply([reading(0, cells), (WRITE, 0)])[1:]
        making = [(BOX, 1, 2, 2, 2, 5, 5, 5, 1), reading(0, cells), read_call(1, row)]
        self.assertEqual(replies(making + [(SAME, 0, 1), (WRITE, 1)])[2:], [[0], [0, 1], [0] + row])
        return row

    def test_random_sets(self):
        chance = random.Random(51)
        for _ in range(100):
            cells = random_cells(chance, chance.choice((0.001, 0.01, 0.1, 0.5, 0.9, 0.99, 0.999)))
            self.assertEqual(self.told_again(cells), model_form(cells))

    def test_random_boxes(self):
        chance = random.Random(52)
        for _ in range(100):
            cells = set()
            for _ in range(chance.randint(1, 4)):
                corner = [chance.randrange(0, 8, chance.choice((1, 2, 4))) for _ in range(3)]
                cells ^= box(*corner, *[min(7, at + chance.choice((0, 1, 3, 7))) for at in corner])
            self.assertEqual(self.told_again(cells), model_form(cells))

    def test_samples(self):
        for cells in SAMPLES.values():
            self.told_again(cells)

    def test_whole_eighths(self):
        rows = [self.told_again(cells) for cells, bits in sets_of_eighths()]
        self.assertEqual(len({tuple(row) for row in rows}), 256)

    def test_one_cell_of_each(self):
        for place in CUBE:
            making = [(SET, 0, *place, 1)]
            row = last_reply(making + [(WRITE, 0)])[1:]
            self.assertEqual(replies(making + [read_call(1, row), (SAME, 0, 1)])[1:], [[0], [0, 1]])


class NothingElseIsRead(unittest.TestCase):
    def refused(self, row):
        self.assertIsNone(model_read(row))
        for o in range(4):
            told = replies(FOUR_SETS + [read_call(o, row)] + [(WRITE, p) for p in range(4)])[len(FOUR_SETS):]
            self.assertEqual(told, [[-2]] + written_sets(FOUR_SETS))

    def test_no_bytes(self):
        self.refused([])

    def test_a_byte_too_many_or_too_few(self):
        for name, cells in SAMPLES.items():
            row = model_form(cells)
            for more in (0, 1, 2, 128, 255):
                with self.subTest(name=name, more=more):
                    self.refused(row + [more])
            with self.subTest(name=name):
                self.refused(row[:-1])
                self.refused([0] + row)
                self.refused([0] * 200)
                self.refused(row + [0] * (200 - len(row)))

    def test_one_one_at_a_cubes_beginning(self):
        self.refused([3])
        self.refused(packed([1, 1] + NONE * 8))
        self.refused(packed([1, 1] + ALL * 8))
        for at in range(8):
            # In the eighth of side 4, and in that of side 2.
            self.refused(packed(HALVES + NONE * at + [1, 1] + NONE * (7 - at)))
            self.refused(packed(HALVES + ALL + NONE * at + [1, 1] + NONE * (6 - at)))
            self.refused(packed(HALVES + HALVES + ALL * at + [1, 1] + NONE * (7 - at) + NONE * 7))

    def test_all_eight_told_though_none_or_all_are_taken(self):
        for whole in (NONE, ALL):
            self.refused(packed(HALVES + whole * 8))
            for rest in (NONE, ALL):
                for at in range(8):
                    self.refused(packed(HALVES + rest * at + HALVES + whole * 8 + rest * (7 - at)))
                    cells = HALVES + whole[:1] * 8
                    side_4 = HALVES + rest * at + cells + rest * (7 - at)
                    self.refused(packed(HALVES + side_4 + NONE * 7))
        for bit in (0, 1):
            self.refused(packed(HALVES + (HALVES + (HALVES + [bit] * 8) * 8) * 8))

    def test_a_one_among_the_bits_that_fill_up(self):
        for bits in (NONE, ALL, HALVES + ALL + NONE * 7, HALVES + (HALVES + (HALVES + [1] + [0] * 7) * 8) * 8):
            row = packed(bits)
            self.assertEqual(replies([read_call(0, row)]), [[0]])
            for at in range(len(bits), 8 * len(row)):
                self.refused(row[:-1] + [row[-1] | 1 << at % 8])

    def test_bytes_above_255(self):
        for row in ([256], [257], [FAR], [0, 256], [1, 256], [106, 0, 256, 0, 0, 0], [106, 0, 0, 0, 0, 256],
                    [362, 0, 0, 0, 0, 0]):
            self.refused(row)

    def test_all_single_bytes(self):
        for byte in range(256):
            wanted = {0: [0], 1: [0]}.get(byte, [-2])
            self.assertEqual(last_reply([read_call(0, [byte])]), wanted)

    def test_each_bit_turned_round(self):
        for name in ("uneven", "two eighths", "a small eighth", "few", "half", "most"):
            bits = bits_of(model_form(SAMPLES[name]))
            for at in range(len(bits)):
                row = packed(bits[:at] + [1 - bits[at]] + bits[at + 1:])
                cells = model_read(row)
                with self.subTest(name=name, at=at):
                    told = replies([FULL, read_call(0, row), (WRITE, 0)])[1:]
                    self.assertEqual(told, [[-2], [0, 1]] if cells is None else [[0], [0] + model_form(cells)])

    def test_random_bytes(self):
        chance = random.Random(53)
        found = {True: 0, False: 0}
        for _ in range(1500):
            many = chance.randint(1, 6)
            row = [chance.choice((0, 0, 0, 1, 2, 2, 8, 32, 128, chance.randrange(256))) for _ in range(many)]
            row = row if chance.random() < 0.5 else [2 + (row[0] & 252)] + row[1:]
            cells = model_read(row)
            found[cells is None] += 1
            told = replies([FULL, read_call(0, row), (WRITE, 0)])[1:]
            self.assertEqual(told, [[-2], [0, 1]] if cells is None else [[0], [0] + row])
        self.assertGreater(min(found.values()), 20)


if __name__ == "__main__":
    unittest.main()

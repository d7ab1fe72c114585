"""spacebook.cells.answers: what is handed in, what is given back, nothing kept."""

import inspect
import random
import unittest

from spacebook import cells
from tests.helper import (
    LIMITS, MOVE, NTH, PIECES, READ, SAMPLES, SHRINK, TURNS, WAY, WRITE,
    line, model_form, model_replies, model_way, random_cells, reading, replies,
)


def random_number(chance, most):
    """A number from 0 to most, at times one that is not as told."""
    if chance.random() < 0.01:
        return chance.choice((most + 1, 4294967295))
    return chance.randint(0, most)


def random_row(chance):
    """A form, at times with something changed."""
    row = model_form(random_cells(chance, chance.choice((0, 0.005, 0.05, 0.3, 0.7, 0.95, 1))))
    if chance.random() < 0.1:
        row[chance.randrange(len(row))] ^= 1 << chance.randrange(8)
    if chance.random() < 0.05:
        row = chance.choice((row[1:], row[:-1], row + [0], [0] + row))
    return row


def random_call(chance):
    asked = chance.choice([3, 3, 4, 4, 4, 4, 24, 24] + [call for call in LIMITS for _ in range(2)])
    o = random_number(chance, 3)
    if asked == MOVE:
        return (MOVE, o, *[chance.choice((-9, -2, -1, 0, 0, 1, 2, 7)) for _ in range(3)])
    if asked == READ:
        row = random_row(chance)
        return (READ, o, len(row), *row)
    if asked == NTH:
        return (NTH, o, random_number(chance, 2), chance.choice((0, 0, 1, 2, 9, 4294967295)))
    call = [asked, o] + [random_number(chance, most) for most in LIMITS[asked][1:]]
    if asked in (4, 14) and chance.random() < 0.9:
        call[2:5], call[5:8] = map(min, call[2:5], call[5:8]), map(max, call[2:5], call[5:8])
    if asked in (8, 9):
        call[3] = min(call[3], chance.choice((1, 1, 2, 99)))
    return tuple(call)


class TheForm(unittest.TestCase):
    def test_what_is_given_back(self):
        calls = [3, 1, 1, 2, 3, 1, 2, 1, 1, 2, 3, 13, 1, 1, 4, 7, 0, 48, 12, 0, 1, 1, 1, 13, 1]
        self.assertEqual(cells.answers(calls), [1, 0, 2, 0, 1, 2, 0, 1, 1, -1, 1, -2, 2, 0, 0, 1, 0, 2, 0, 0])

    def test_what_each_call_answers(self):
        # On an empty set, with a 0 for every number.
        other = {2: [0, 0], 12: [0, 1], 13: [0, 0], 14: [0, 0], 15: [0, 0, 0, 0, 0, 0], 17: [-3], 18: [-3], 19: [-3],
                 20: [0, 0, 0, 0, 0], 21: [0] * 9, 22: [0] * 9, 23: [0, 0], 24: [-2], 25: [0, *TURNS], 26: [0, 0],
                 27: [0, 0]}
        for asked, limits in LIMITS.items():
            wanted = other.get(asked, [0])
            self.assertEqual(cells.answers([asked] + [0] * len(limits)), [len(wanted)] + wanted)

    def test_a_list_of_whole_numbers_alone(self):
        told = cells.answers([3, 0, 1, 2, 3, 1, 2, 0, 1, 2, 3, 2, 0, 3, 2, 1, 12, 0, 0, 12, 0, 1, 13, 0, 1, 9, 7, 0, 99])
        self.assertIs(type(told), list)
        self.assertEqual({type(number) for number in told}, {int})

    def test_whole_numbers_alone_of_every_call(self):
        for name in ("empty", "full", "uneven", "most"):
            for asked, limits in LIMITS.items():
                if asked != READ:
                    calls = line([reading(0, SAMPLES[name]), [asked] + [0] * len(limits)])
                    self.assertEqual({type(number) for number in cells.answers(calls)}, {int})

    def test_the_numbers_behind_a_row_are_the_next_call(self):
        calls = [24, 0, 1, 1, 13, 0, 24, 1, 0, 13, 0, 24, 1, 6, 106, 0, 0, 0, 0, 0, 13, 1, 24, 7, 2, 13, 0, 13, 0]
        self.assertEqual(cells.answers(calls), [1, 0, 2, 0, 512, 1, -2, 2, 0, 512, 1, 0, 2, 0, 1, 1, -1, 2, 0, 512])

    def test_one_parameter(self):
        self.assertEqual(list(inspect.signature(cells.answers).parameters), ["calls"])

    def test_one_call(self):
        self.assertEqual(cells.answers([13, 3]), [2, 0, 0])
        self.assertEqual(cells.answers([1, 0]), [1, 0])
        self.assertEqual(cells.answers([24, 3, 1, 0]), [1, 0])
        self.assertEqual(cells.answers([24, 3, 0]), [1, -2])
        self.assertEqual(cells.answers([23, 0]), [2, 0, 0])
        self.assertEqual(cells.answers([19, 2, 0, 0, 0, 0, 0, 0]), [1, -3])

    def test_sixty_calls(self):
        calls = [(3, n % 4, n % 8, n // 8, 7 - n % 8, 1) for n in range(56)] + [(13, o) for o in range(4)]
        self.assertEqual(len(calls), 60)
        self.assertEqual(replies(calls), [[0]] * 56 + [[0, 14]] * 4)

    def test_sixty_long_calls(self):
        calls = [4, 0, 0, 0, 0, 7, 7, 7, 1] + [8, 0, 2, 8] * 58 + [13, 0]
        self.assertEqual(cells.answers(calls), [1, 0] * 59 + [2, 0, 512])

    def test_sixty_calls_of_each_sort(self):
        for asked, limits in LIMITS.items():
            calls = [reading(0, SAMPLES["chain"])] + [(asked,) + (0,) * len(limits)] * 59
            with self.subTest(asked=asked):
                self.assertEqual(replies(calls), model_replies(calls))

    def test_the_longest_line(self):
        calls = [(READ, n % 4, 200, *[0] * 200) for n in range(60)]
        self.assertEqual(replies(calls), [[-2]] * 60)
        row = model_form(SAMPLES["every other"])
        self.assertEqual(replies([(READ, n % 4, 83, *row) for n in range(60)]), [[0]] * 60)

    def test_long_answers(self):
        making = [reading(0, SAMPLES["every other"]), reading(1, SAMPLES["winding"])]
        told = replies(making + [(PIECES, 0, 0), (WRITE, 0), (WAY, 1, 0, 0, 0, 7, 0, 6)] * 19)[2:]
        wanted = [[0] + [1] * 256, [0] + model_form(SAMPLES["every other"])]
        self.assertEqual(told, (wanted + [[0] + model_way(SAMPLES["winding"], 0, 0, 0, 7, 0, 6)]) * 19)


class NothingIsKept(unittest.TestCase):
    def test_what_is_handed_in_stays(self):
        chance = random.Random(1)
        for _ in range(20):
            calls = line([random_call(chance) for _ in range(60)])
            before = list(calls)
            told = cells.answers(calls)
            self.assertEqual(calls, before)
            self.assertIsNot(told, calls)

    def test_asked_twice(self):
        chance = random.Random(2)
        for _ in range(20):
            calls = line([random_call(chance) for _ in range(60)])
            first = cells.answers(calls)
            kept = list(first)
            first.append(99)
            cells.answers([4, 0, 0, 0, 0, 7, 7, 7, 1])
            self.assertEqual(cells.answers(calls), kept)

    def test_each_line_begins_empty(self):
        cells.answers([4, 0, 0, 0, 0, 7, 7, 7, 1, 5, 1, 0, 14, 5, 2, 0, 14, 5, 3, 0, 14])
        self.assertEqual(cells.answers([13, 0, 13, 1, 13, 2, 13, 3]), [2, 0, 0] * 4)


class AgainstTheModel(unittest.TestCase):
    def test_random_lines(self):
        chance = random.Random(3)
        for _ in range(80):
            calls = [random_call(chance) for _ in range(chance.randint(1, 60))]
            with self.subTest(calls=calls):
                self.assertEqual(replies(calls), model_replies(calls))

    def test_all_cells_behind_random_lines(self):
        chance = random.Random(4)
        for _ in range(40):
            making = [random_call(chance) for _ in range(20)]
            making = [call for call in making if call[0] != SHRINK]
            asked = [(2, o, x, y, z) for o in range(4) for z in range(8) for y in range(8) for x in range(8)]
            for o in range(4):
                part = [call for call in asked if call[1] == o and chance.random() < 0.07][:40]
                with self.subTest(making=making, part=part):
                    self.assertEqual(replies(making + part), model_replies(making + part))


if __name__ == "__main__":
    unittest.main()

"""spacebook.cells.answers: what is handed in, what is given back, nothing kept."""

import inspect
import random
import unittest

from spacebook import cells
from tests.helper import LIMITS, MOVE, SHRINK, line, model_replies, replies


def random_number(chance, most):
    """A number from 0 to most, at times one that is not as told."""
    if chance.random() < 0.01:
        return chance.choice((most + 1, 4294967295))
    return chance.randint(0, most)


def random_call(chance):
    number = chance.choice([3, 3, 4, 4, 4, 4] + [call for call in LIMITS for _ in range(2)])
    if number == MOVE:
        steps = [chance.choice((-9, -2, -1, 0, 0, 1, 2, 7)) for _ in range(3)]
        return (MOVE, random_number(chance, 3), *steps)
    call = [number] + [random_number(chance, most) for most in LIMITS[number]]
    if number in (4, 14) and chance.random() < 0.9:
        call[2:5], call[5:8] = map(min, call[2:5], call[5:8]), map(max, call[2:5], call[5:8])
    if number in (8, 9):
        call[3] = min(call[3], chance.choice((1, 1, 2, 99)))
    return tuple(call)


class TheForm(unittest.TestCase):
    def test_what_is_given_back(self):
        calls = [3, 1, 1, 2, 3, 1, 2, 1, 1, 2, 3, 13, 1, 1, 4, 7, 0, 48, 12, 0, 1, 1, 1, 13, 1]
        self.assertEqual(cells.answers(calls), [1, 0, 2, 0, 1, 2, 0, 1, 1, -1, 1, -2, 2, 0, 0, 1, 0, 2, 0, 0])

    def test_what_each_call_answers(self):
        for number, limits in LIMITS.items():
            told = cells.answers([number] + [0] * len(limits))
            if number in (2, 12, 13, 14):
                self.assertEqual(told, [2, 0, 1 if number == 12 else 0])
            else:
                self.assertEqual(told, [1, 0])

    def test_a_list_of_whole_numbers_alone(self):
        told = cells.answers([3, 0, 1, 2, 3, 1, 2, 0, 1, 2, 3, 2, 0, 3, 2, 1, 12, 0, 0, 12, 0, 1, 13, 0, 1, 9, 7, 0, 99])
        self.assertIs(type(told), list)
        self.assertEqual({type(number) for number in told}, {int})

    def test_one_parameter(self):
        self.assertEqual(list(inspect.signature(cells.answers).parameters), ["calls"])

    def test_one_call(self):
        self.assertEqual(cells.answers([13, 3]), [2, 0, 0])
        self.assertEqual(cells.answers([1, 0]), [1, 0])

    def test_sixty_calls(self):
        calls = [(3, n % 4, n % 8, n // 8, 7 - n % 8, 1) for n in range(56)] + [(13, o) for o in range(4)]
        self.assertEqual(len(calls), 60)
        self.assertEqual(replies(calls), [[0]] * 56 + [[0, 14]] * 4)

    def test_sixty_long_calls(self):
        calls = [4, 0, 0, 0, 0, 7, 7, 7, 1] + [8, 0, 2, 8] * 58 + [13, 0]
        self.assertEqual(cells.answers(calls), [1, 0] * 59 + [2, 0, 512])


class NothingIsKept(unittest.TestCase):
    def test_what_is_handed_in_stays(self):
        chance = random.Random(1)
        for _ in range(20):
            calls = line([random_call(chance) for _ in range(60)])
            before = list(calls)
            told = cells.answers(calls)
            self.assertEqual(calls, before)
            self.assertIsNot(told, calls)

    def test_asked_twice(self):
        chance = random.Random(2)
        for _ in range(20):
            calls = line([random_call(chance) for _ in range(60)])
            first = cells.answers(calls)
            kept = list(first)
            first.append(99)
            cells.answers([4, 0, 0, 0, 0, 7, 7, 7, 1])
            self.assertEqual(cells.answers(calls), kept)

    def test_each_line_begins_empty(self):
        cells.answers([4, 0, 0, 0, 0, 7, 7, 7, 1, 5, 1, 0, 14, 5, 2, 0, 14, 5, 3, 0, 14])
        self.assertEqual(cells.answers([13, 0, 13, 1, 13, 2, 13, 3]), [2, 0, 0] * 4)


class AgainstTheModel(unittest.TestCase):
    def test_random_lines(self):
        chance = random.Random(3)
        for _ in range(60):
            calls = [random_call(chance) for _ in range(chance.randint(1, 60))]
            with self.subTest(calls=calls):
                self.assertEqual(replies(calls), model_replies(calls))

    def test_all_cells_behind_random_lines(self):
        chance = random.Random(4)
        for _ in range(60):
            making = [random_call(chance) for _ in range(20)]
            making = [call for call in making if call[0] != SHRINK]
            asked = [(2, o, x, y, z) for o in range(4) for z in range(8) for y in range(8) for x in range(8)]
            for o in range(4):
                part = [call for call in asked if call[1] == o and chance.random() < 0.07][:40]
                with self.subTest(making=making, part=part):
                    self.assertEqual(replies(making + part), model_replies(making + part))


if __name__ == "__main__":
    unittest.main()

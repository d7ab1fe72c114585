"""Refused calls: -1 for a set above 3, -2 for the rest, -3 for what there is none of; and nothing changed."""

import unittest

from tests.helper import (
    BOX, CELL, FAR, FIND, FOUR_SETS, FULL, KINDS, LEAST, LIMITS, MOVE, NEAR, NTH, READ, SET, WAY,
    all_taken, last_reply, replies, sets_among, written_sets,
)

# A call of each sort that is as told, by its number.
RIGHT = {
    1: (1, 0), 2: (2, 0, 1, 2, 3), 3: (3, 0, 5, 5, 5, 1), 4: (4, 0, 1, 1, 1, 6, 6, 6, 1), 5: (5, 0, 1, 6),
    6: (6, 0, 1, 1, 1), 7: (7, 0, 9), 8: (8, 0, 1, 1), 9: (9, 0, 1, 1), 10: (10, 0, 1), 11: (11, 0, 1, 1, 2, 3),
    12: (12, 0, 1), 13: (13, 0), 14: (14, 0, 1, 1, 1, 6, 6, 6), 15: (15, 0), 16: (16, 0, 1), 17: (17, 0, 1, 0),
    18: (18, 0, 1, 2, 3), 19: (19, 0, 1, 2, 3, 2, 2, 3), 20: (20, 0, 1, 2, 3, 4, 5, 6), 21: (21, 0, 1, 5),
    22: (22, 0, 1), 23: (23, 0), 24: (24, 0, 1, 1), 25: (25, 0), 26: (26, 0), 27: (27, 0, 1),
}

# Rows of bytes that are no form.
WRONG_ROWS = ([], [3], [0, 0], [1, 0], [4], [129], [2], [2, 0, 0], [256], [FAR], [0] * 200, [FAR] * 200)


def spoilt(call, at, number):
    """The call with that number in the place of its at-th."""
    return call[:at + 1] + (number,) + call[at + 2:]


def wrong_numbers():
    """Each call with one number not as told; and what is due."""
    for number, limits in LIMITS.items():
        for at, most in enumerate(limits):
            if most is None:
                continue
            due = -1 if at in sets_among(number) else -2
            for wrong in (most + 1, most + 2, 255, 256, FAR):
                yield spoilt(RIGHT[number], at, wrong), due
    for row in WRONG_ROWS:
        yield (READ, 0, len(row), *row), -2


def what_there_is_none_of():
    """Calls on FOUR_SETS that are refused by -3; set 0 is to be cleared for the last ones."""
    for kind in KINDS:
        yield [], (NTH, 0, kind, 4)
        yield [], (NTH, 3, kind, 1)
        yield [], (NTH, 3, kind, FAR)
        yield [(1, 0)], (NTH, 0, kind, 0)
    for start, goal in (((1, 2, 3), (1, 4, 3)), ((1, 2, 3), (5, 5, 5)), ((5, 5, 5), (1, 2, 3)), ((5, 5, 5), (5, 5, 5))):
        yield [], (WAY, 0, *start, *goal)
        yield [(1, 0)], (WAY, 0, *start, *goal)
    for place in ((0, 0, 0), (1, 2, 3), (7, 7, 7)):
        yield [(1, 0)], (NEAR, 0, *place)


class Refusals(unittest.TestCase):
    def test_every_call_is_here(self):
        self.assertEqual(list(RIGHT), list(range(1, 28)))
        self.assertEqual(sorted(LIMITS), list(range(1, 28)))

    def test_each_number(self):
        for call, due in wrong_numbers():
            with self.subTest(call=call):
                self.assertEqual(replies([call]), [[due]])
                self.assertEqual(last_reply(FOUR_SETS + [call]), [due])

    def test_each_number_at_its_most(self):
        all_full = [(BOX, o, 0, 0, 0, 7, 7, 7, 1) for o in range(4)]
        for number, limits in LIMITS.items():
            for at, most in enumerate(limits):
                if most is not None:
                    with self.subTest(call=number, at=at):
                        for least_or_most in (0, most):
                            self.assertEqual(last_reply(all_full + [spoilt(RIGHT[number], at, least_or_most)])[0], 0)

    def test_a_set_goes_ahead_of_the_rest(self):
        for number, limits in LIMITS.items():
            for at, most in enumerate(limits):
                if most is None or at in sets_among(number):
                    continue
                for place in sets_among(number):
                    for wrong_set in (4, FAR):
                        call = spoilt(spoilt(RIGHT[number], at, most + 1), place, wrong_set)
                        with self.subTest(call=call):
                            self.assertEqual(replies([call]), [[-1]])

    def test_a_set_goes_ahead_of_bytes_that_are_no_form(self):
        for row in WRONG_ROWS:
            for wrong_set in (4, 5, 256, FAR):
                self.assertEqual(replies([(READ, wrong_set, len(row), *row), (CELL, 0, 1, 1, 1)]), [[-1], [0, 0]])

    def test_the_second_set_of_find(self):
        for wrong_set in (4, 5, 256, FAR):
            for calls in ([(FIND, 0, wrong_set)], [(FIND, wrong_set, 0)], [(FIND, wrong_set, wrong_set)]):
                self.assertEqual(replies(calls), [[-1]])
                self.assertEqual(replies([FULL] + calls)[1:], [[-1]])

    def test_all_numbers_wrong(self):
        for number, limits in LIMITS.items():
            if number not in (MOVE, READ):
                self.assertEqual(replies([(number,) + (FAR,) * len(limits)]), [[-1]])
        self.assertEqual(replies([(MOVE, FAR, -2147483648, 2147483647, 0)]), [[-1]])
        self.assertEqual(replies([(MOVE, 4, 0, 0, 0)]), [[-1]])
        self.assertEqual(replies([(READ, FAR, 2, FAR, FAR), (READ, 4, 0)]), [[-1], [-1]])

    def test_what_there_is_none_of(self):
        for clearing, call in what_there_is_none_of():
            with self.subTest(clearing=clearing, call=call):
                self.assertEqual(last_reply(FOUR_SETS + clearing + [call]), [-3])

    def test_a_wrong_number_goes_ahead_of_what_there_is_none_of(self):
        for clearing, call in what_there_is_none_of():
            limits = LIMITS[call[0]]
            for at, most in enumerate(limits):
                if most is not None:
                    for wrong in (most + 1, FAR):
                        wrong_call = spoilt(call, at, wrong)
                        with self.subTest(call=wrong_call):
                            self.assertEqual(last_reply(FOUR_SETS + clearing + [wrong_call]), [-1 if at == 0 else -2])

    def test_a_box_that_is_empty_is_refused_for_its_numbers(self):
        self.assertEqual(replies([(4, 0, 5, 5, 5, 1, 8, 1, 1), (14, 0, 8, 0, 0, 1, 1, 1)]), [[-2], [-2]])

    def test_nothing_is_done_no_times(self):
        self.assertEqual(replies([(8, 0, 3, 0), (9, 0, 3, 0), (10, 0, 3), (11, 0, 3, 0, 0, 0)]), [[-2]] * 4)

    def test_nothing_is_changed(self):
        before = all_taken(FOUR_SETS)
        for number in range(1, 24):
            wrong = [call for call, due in wrong_numbers() if call[0] == number]
            for start in range(0, len(wrong), 40):
                with self.subTest(number=number, start=start):
                    self.assertEqual(all_taken(FOUR_SETS + wrong[start:start + 40]), before)

    def test_nothing_is_changed_by_each_alone(self):
        before = written_sets(FOUR_SETS)
        for call, due in wrong_numbers():
            with self.subTest(call=call):
                self.assertEqual(written_sets(FOUR_SETS + [call]), before)
        for clearing, call in what_there_is_none_of():
            with self.subTest(clearing=clearing, call=call):
                self.assertEqual(written_sets(FOUR_SETS + clearing + [call]), written_sets(FOUR_SETS + clearing))

    def test_the_calls_behind_a_refusal_go_on(self):
        told = replies([(3, 0, 1, 2, 3, 1), (3, 0, 1, 2, 8, 0), (CELL, 4, 1, 2, 3), (CELL, 0, 1, 2, 3), (13, 0)])
        self.assertEqual(told, [[0], [-2], [-1], [0, 1], [0, 1]])
        told = replies([(READ, 9, 3, 1, 2, 3), (SET, 0, 1, 2, 3, 1), (READ, 0, 2, 1, 0), (NTH, 0, 0, 1), (LEAST, 4),
                        (READ, 0, 0), (NTH, 0, 0, 0)])
        self.assertEqual(told, [[-1], [0], [-2], [-3], [-1], [-2], [0, 1, 2, 3, 1]])


if __name__ == "__main__":
    unittest.main()

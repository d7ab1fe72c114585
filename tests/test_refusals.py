"""Wrong numbers: -1 for a set above 3, -2 for the rest, and nothing changed."""

import unittest

from tests.helper import CELL, FOUR_SETS, LIMITS, MOVE, all_taken, last_reply, replies, sets_among

FAR = 4294967295
# A call of each sort that is as told, by its number.
RIGHT = {
    1: (1, 0), 2: (2, 0, 1, 2, 3), 3: (3, 0, 5, 5, 5, 1), 4: (4, 0, 1, 1, 1, 6, 6, 6, 1), 5: (5, 0, 1, 6),
    6: (6, 0, 1, 1, 1), 7: (7, 0, 9), 8: (8, 0, 1, 1), 9: (9, 0, 1, 1), 10: (10, 0, 1), 11: (11, 0, 1, 1, 2, 3),
    12: (12, 0, 1), 13: (13, 0), 14: (14, 0, 1, 1, 1, 6, 6, 6),
}


def spoilt(call, at, number):
    """The call with that number in the place of its at-th."""
    return call[:at + 1] + (number,) + call[at + 2:]


def wrong_numbers():
    """Each call with one number not as told; where it stands and what is due."""
    for number, limits in LIMITS.items():
        for at, most in enumerate(limits):
            if most is None:
                continue
            due = -1 if at in sets_among(number) else -2
            for wrong in (most + 1, most + 2, 255, 256, FAR):
                yield spoilt(RIGHT[number], at, wrong), due


class Refusals(unittest.TestCase):
    def test_each_number(self):
        for call, due in wrong_numbers():
            with self.subTest(call=call):
                self.assertEqual(replies([call]), [[due]])
                self.assertEqual(last_reply(FOUR_SETS + [call]), [due])

    def test_each_number_at_its_most(self):
        for number, limits in LIMITS.items():
            for at, most in enumerate(limits):
                if most is not None:
                    with self.subTest(call=number, at=at):
                        for least_or_most in (0, most):
                            self.assertEqual(last_reply([spoilt(RIGHT[number], at, least_or_most)])[0], 0)

    def test_a_set_goes_ahead_of_the_rest(self):
        for number, limits in LIMITS.items():
            for at, most in enumerate(limits):
                if most is None or at in sets_among(number):
                    continue
                for place in sets_among(number):
                    for wrong_set in (4, FAR):
                        call = spoilt(spoilt(RIGHT[number], at, most + 1), place, wrong_set)
                        with self.subTest(call=call):
                            self.assertEqual(replies([call]), [[-1]])

    def test_all_numbers_wrong(self):
        for number, limits in LIMITS.items():
            call = (number,) + (FAR,) * len(limits)
            if number != MOVE:
                self.assertEqual(replies([call]), [[-1]])
        self.assertEqual(replies([(MOVE, FAR, -2147483648, 2147483647, 0)]), [[-1]])
        self.assertEqual(replies([(MOVE, 4, 0, 0, 0)]), [[-1]])

    def test_a_box_that_is_empty_is_refused_for_its_numbers(self):
        self.assertEqual(replies([(4, 0, 5, 5, 5, 1, 8, 1, 1), (14, 0, 8, 0, 0, 1, 1, 1)]), [[-2], [-2]])

    def test_nothing_is_done_no_times(self):
        self.assertEqual(replies([(8, 0, 3, 0), (9, 0, 3, 0), (10, 0, 3), (11, 0, 3, 0, 0, 0)]), [[-2]] * 4)

    def test_nothing_is_changed(self):
        before = all_taken(FOUR_SETS)
        for call, _ in wrong_numbers():
            with self.subTest(call=call):
                self.assertEqual(all_taken(FOUR_SETS + [call]), before)

    def test_the_calls_behind_a_refusal_go_on(self):
        told = replies([(3, 0, 1, 2, 3, 1), (3, 0, 1, 2, 8, 0), (CELL, 4, 1, 2, 3), (CELL, 0, 1, 2, 3), (13, 0)])
        self.assertEqual(told, [[0], [-2], [-1], [0, 1], [0, 1]])


if __name__ == "__main__":
    unittest.main()

"""same, count, in. (What cell tells stands by set.)"""

import unittest

from tests.helper import BOX, COUNT, CUBE, FOUR_SETS, FULL, IN, SAME, SET, WITH, all_taken, box, last_reply, replies


class Same(unittest.TestCase):
    def test_differing_sets(self):
        for o in range(4):
            for p in range(4):
                self.assertEqual(last_reply(FOUR_SETS + [(SAME, o, p)]), [0, 1 if o == p else 0])

    def test_equal_sets_made_in_two_ways(self):
        making = [(BOX, 1, 1, 2, 3, 2, 2, 3, 1), (SET, 3, 2, 2, 3, 1), (SET, 3, 1, 2, 3, 1)]
        self.assertEqual(replies(making + [(SAME, 1, 3), (SAME, 3, 1), (SAME, 1, 0)])[3:], [[0, 1], [0, 1], [0, 0]])

    def test_empty_and_full(self):
        self.assertEqual(replies([(SAME, 0, 3), (SAME, 2, 2), FULL, (SAME, 0, 3), (WITH, 3, 0, 14), (SAME, 0, 3)]),
                         [[0, 1], [0, 1], [0], [0, 0], [0], [0, 1]])

    def test_one_cell_more(self):
        for place in ((0, 0, 0), (7, 7, 7), (3, 0, 6)):
            making = [FULL, (BOX, 1, 0, 0, 0, 7, 7, 7, 1), (SET, 1) + place + (0,)]
            self.assertEqual(last_reply(making + [(SAME, 0, 1)]), [0, 0])
            self.assertEqual(last_reply(making + [(SAME, 1, 0)]), [0, 0])
            self.assertEqual(last_reply(making + [(SET, 1) + place + (1,), (SAME, 0, 1)]), [0, 1])


class Count(unittest.TestCase):
    def test_each_set(self):
        told = replies(FOUR_SETS + [(COUNT, o) for o in range(4)])[len(FOUR_SETS):]
        self.assertEqual(told, [[0, 4], [0, 25], [0, 60], [0, 511]])

    def test_empty_one_and_full(self):
        self.assertEqual(replies([(COUNT, 0), (SET, 0, 7, 7, 7, 1), (COUNT, 0), FULL, (COUNT, 0)]),
                         [[0, 0], [0], [0, 1], [0], [0, 512]])


class In(unittest.TestCase):
    def test_parts_of_a_box(self):
        made = [(BOX, 0, 1, 2, 3, 5, 6, 7, 1), (SET, 0, 2, 3, 4, 0)]
        cells = box(1, 2, 3, 5, 6, 7) - {(2, 3, 4)}
        for asked in ((0, 0, 0, 7, 7, 7), (1, 2, 3, 1, 2, 3), (2, 3, 4, 2, 3, 4), (2, 3, 4, 3, 4, 5), (0, 0, 0, 1, 7, 7),
                      (0, 0, 0, 7, 2, 7), (0, 0, 0, 7, 7, 3), (5, 6, 7, 7, 7, 7), (6, 0, 0, 7, 7, 7)):
            with self.subTest(asked=asked):
                self.assertEqual(last_reply(made + [(IN, 0) + asked]), [0, len(cells & box(*asked))])

    def test_every_cell_alone(self):
        before = all_taken(FOUR_SETS)
        for o in range(4):
            for start in range(0, 512, 49):
                asked = CUBE[start:start + 49]
                told = replies(FOUR_SETS + [(IN, o) + place + place for place in asked])[len(FOUR_SETS):]
                self.assertEqual(told, [[0, int(place in before[o])] for place in asked])

    def test_a_box_without_cells(self):
        for asked in ((5, 0, 0, 4, 7, 7), (0, 5, 0, 7, 4, 7), (0, 0, 5, 7, 7, 4), (7, 7, 7, 0, 0, 0)):
            self.assertEqual(replies([FULL, (IN, 0) + asked]), [[0], [0, 0]])

    def test_empty_and_full(self):
        self.assertEqual(replies([(IN, 2, 0, 0, 0, 7, 7, 7)]), [[0, 0]])
        self.assertEqual(replies([FULL, (IN, 0, 0, 0, 0, 7, 7, 7), (IN, 0, 1, 2, 3, 4, 4, 4)]),
                         [[0], [0, 512], [0, 24]])


if __name__ == "__main__":
    unittest.main()

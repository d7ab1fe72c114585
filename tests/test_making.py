"""clear, cell, set, box, with, move, turn."""

import unittest

from tests.helper import (
    BOX, CELL, CLEAR, COUNT, CUBE, FOUR_SETS, FULL, LEAST, MOVE, READ, SAME, SET, TURN, WITH,
    all_taken, box, last_reply, model_turned, model_with, replies, taken,
)

LOWEST, GREATEST = -2147483648, 2147483647
THREE_CELLS = [(SET, 0, 0, 0, 0, 1), (SET, 0, 7, 7, 7, 1), (SET, 0, 3, 4, 5, 1)]
# The table by which a set becomes a copy of the second.
COPY = 10


class EmptyAtTheBeginning(unittest.TestCase):
    def test_all_four_sets(self):
        self.assertEqual(all_taken([]), [set()] * 4)
        self.assertEqual(replies([(COUNT, o) for o in range(4)]), [[0, 0]] * 4)


class OneSetAlone(unittest.TestCase):
    def test_each_call_changes_only_its_set(self):
        before = all_taken(FOUR_SETS)
        self.assertEqual([len(cells) for cells in before], [4, 25, 60, 511])
        for call in ((CLEAR,), (SET, 5, 6, 7, 1), (SET, 2, 2, 3, 0), (BOX, 1, 1, 1, 5, 5, 5, 1),
                     (BOX, 1, 1, 1, 5, 5, 5, 0), (MOVE, 1, 2, 3), (TURN, 43), (8, 2, 1), (9, 0, 1),
                     (10, 0), (11, 2, 2, 2, 3), (READ, 1, 1), (READ, 6, 106, 0, 0, 0, 0, 0), (LEAST,)):
            for o in range(4):
                with self.subTest(call=call, o=o):
                    behind = all_taken(FOUR_SETS + [(call[0], o) + call[1:]])
                    self.assertEqual(behind[:o] + behind[o + 1:], before[:o] + before[o + 1:])

    def test_with_leaves_the_second_and_the_rest(self):
        before = all_taken(FOUR_SETS)
        for o, p in ((0, 1), (1, 0), (3, 2), (2, 2)):
            with self.subTest(o=o, p=p):
                wanted = list(before)
                wanted[o] = before[o] ^ before[p]
                self.assertEqual(all_taken(FOUR_SETS + [(WITH, o, p, 6)]), wanted)

    def test_telling_calls_change_nothing(self):
        before = all_taken(FOUR_SETS)
        for o in range(4):
            for call in ((CELL, o, 1, 2, 3), (SAME, o, 1), (COUNT, o), (14, o, 0, 0, 0, 7, 7, 7), (15, o), (16, o, 1),
                         (17, o, 0, 0), (18, o, 4, 4, 4), (19, o, 1, 2, 3, 2, 2, 3), (20, o, 1, 2, 3, 7, 0, 5),
                         (21, o, 2, 3), (22, o, 0), (23, o), (25, o), (27, o, 0), (27, 3, o)):
                with self.subTest(call=call):
                    self.assertEqual(all_taken(FOUR_SETS + [call]), before)


class Clear(unittest.TestCase):
    def test_clears(self):
        for o in range(4):
            before = all_taken(FOUR_SETS)
            before[o] = set()
            self.assertEqual(all_taken(FOUR_SETS + [(CLEAR, o)]), before)

    def test_of_an_empty_set(self):
        self.assertEqual(replies([(CLEAR, 2), (COUNT, 2)]), [[0], [0, 0]])


class CellAndSet(unittest.TestCase):
    def test_a_cell_is_told_where_it_was_set(self):
        calls = [(SET, 1, 1, 2, 3, 1), (CELL, 1, 1, 2, 3), (CELL, 1, 3, 2, 1), (CELL, 1, 2, 1, 3), (CELL, 0, 1, 2, 3)]
        self.assertEqual(replies(calls), [[0], [0, 1], [0, 0], [0, 0], [0, 0]])

    def test_every_cell_alone(self):
        for place in CUBE:
            calls = [(SET, 0) + place + (1,), (CELL, 0) + place, (COUNT, 0)]
            self.assertEqual(replies(calls), [[0], [0, 1], [0, 1]])

    def test_cells_in_one_another_s_rows(self):
        for place in ((0, 0, 0), (7, 0, 0), (0, 7, 0), (0, 0, 7), (7, 7, 7), (6, 1, 4)):
            self.assertEqual(taken([(SET, 2) + place + (1,)], 2), {place})
            self.assertEqual(taken([(BOX, 2, 0, 0, 0, 7, 7, 7, 1), (SET, 2) + place + (0,)], 2), set(CUBE) - {place})

    def test_set_again_and_free_again(self):
        calls = [(SET, 0, 4, 4, 4, 1), (SET, 0, 4, 4, 4, 1), (CELL, 0, 4, 4, 4), (SET, 0, 4, 4, 4, 0),
                 (SET, 0, 4, 4, 4, 0), (CELL, 0, 4, 4, 4), (COUNT, 0)]
        self.assertEqual(replies(calls), [[0], [0], [0, 1], [0], [0], [0, 0], [0, 0]])


class Box(unittest.TestCase):
    def test_the_cells_between(self):
        self.assertEqual(taken([(BOX, 0, 1, 2, 3, 2, 5, 4, 1)], 0), box(1, 2, 3, 2, 5, 4))
        self.assertEqual(last_reply([(BOX, 0, 1, 2, 3, 2, 5, 4, 1), (COUNT, 0)]), [0, 16])

    def test_one_cell_and_the_whole_cube(self):
        self.assertEqual(taken([(BOX, 0, 7, 0, 7, 7, 0, 7, 1)], 0), {(7, 0, 7)})
        self.assertEqual(taken([FULL], 0), set(CUBE))

    def test_joined_to_what_is_there(self):
        making = [(BOX, 0, 0, 0, 0, 3, 3, 3, 1), (BOX, 0, 2, 2, 2, 5, 5, 5, 1)]
        self.assertEqual(taken(making, 0), box(0, 0, 0, 3, 3, 3) | box(2, 2, 2, 5, 5, 5))

    def test_to_free(self):
        making = [FULL, (BOX, 0, 1, 2, 3, 4, 5, 6, 0)]
        self.assertEqual(taken(making, 0), set(CUBE) - box(1, 2, 3, 4, 5, 6))
        self.assertEqual(taken([(BOX, 0, 1, 2, 3, 4, 5, 6, 0)], 0), set())

    def test_a_first_above_its_second(self):
        for numbers in ((5, 0, 0, 4, 7, 7), (0, 5, 0, 7, 4, 7), (0, 0, 5, 7, 7, 4), (7, 7, 7, 0, 0, 0)):
            with self.subTest(numbers=numbers):
                self.assertEqual(replies([(BOX, 0) + numbers + (1,), (COUNT, 0)]), [[0], [0, 0]])
                self.assertEqual(replies([FULL, (BOX, 0) + numbers + (0,), (COUNT, 0)])[1:], [[0], [0, 512]])


class With(unittest.TestCase):
    MAKING = [(BOX, 0, 1, 1, 1, 4, 4, 4, 1), (BOX, 1, 3, 0, 2, 7, 5, 3, 1)]

    def test_all_tables(self):
        first, second = box(1, 1, 1, 4, 4, 4), box(3, 0, 2, 7, 5, 3)
        for table in range(16):
            with self.subTest(table=table):
                making = self.MAKING + [(WITH, 0, 1, table)]
                self.assertEqual(taken(making, 0), model_with(first, second, table))
                self.assertEqual(taken(making, 1), second)

    def test_tables_by_their_meaning(self):
        first, second, cube = box(1, 1, 1, 4, 4, 4), box(3, 0, 2, 7, 5, 3), set(CUBE)
        for table, wanted in ((0, set()), (1, cube - first - second), (2, second - first), (4, first - second),
                              (8, first & second), (14, first | second), (6, first ^ second), (10, second),
                              (12, first), (3, cube - first), (15, cube)):
            with self.subTest(table=table):
                self.assertEqual(taken(self.MAKING + [(WITH, 0, 1, table)], 0), wanted)

    def test_of_a_set_with_itself(self):
        cells = box(1, 1, 1, 4, 4, 4)
        for table in range(16):
            with self.subTest(table=table):
                wanted = (cells if table & 8 else set()) | (set(CUBE) - cells if table & 1 else set())
                self.assertEqual(taken([(BOX, 2, 1, 1, 1, 4, 4, 4, 1), (WITH, 2, 2, table)], 2), wanted)

    def test_of_empty_ones(self):
        for table in range(16):
            wanted = [0, 512] if table & 1 else [0, 0]
            self.assertEqual(last_reply([(WITH, 3, 0, table), (COUNT, 3)]), wanted)


class Move(unittest.TestCase):
    def test_each_way(self):
        for step in ((1, 0, 0), (-1, 0, 0), (0, 1, 0), (0, -1, 0), (0, 0, 1), (0, 0, -1), (1, -2, 3), (-3, 2, -1)):
            with self.subTest(step=step):
                wanted = box(3 + step[0], 3 + step[1], 3 + step[2], 4 + step[0], 4 + step[1], 4 + step[2])
                self.assertEqual(len(wanted), 8)
                self.assertEqual(taken([(BOX, 0, 3, 3, 3, 4, 4, 4, 1), (MOVE, 0) + step], 0), wanted)

    def test_by_nothing(self):
        self.assertEqual(taken(THREE_CELLS + [(MOVE, 0, 0, 0, 0)], 0), {(0, 0, 0), (7, 7, 7), (3, 4, 5)})
        self.assertEqual(replies([FULL, (MOVE, 0, 0, 0, 0), (COUNT, 0)]), [[0], [0], [0, 512]])

    def test_what_goes_out_is_lost(self):
        for step, there, back in (((1, 0, 0), (1, 0, 0, 7, 7, 7), (0, 0, 0, 6, 7, 7)),
                                  ((0, -1, 0), (0, 0, 0, 7, 6, 7), (0, 1, 0, 7, 7, 7)),
                                  ((0, 0, 2), (0, 0, 2, 7, 7, 7), (0, 0, 0, 7, 7, 5)),
                                  ((7, -7, 7), (7, 0, 7, 7, 0, 7), (0, 7, 0, 0, 7, 0))):
            with self.subTest(step=step):
                self.assertEqual(taken([FULL, (MOVE, 0) + step], 0), box(*there))
                again = tuple(-number for number in step)
                self.assertEqual(taken([FULL, (MOVE, 0) + step, (MOVE, 0) + again], 0), box(*back))

    def test_far_moves_lose_all(self):
        for far in (8, -8, 9, 64, -64, 512, LOWEST, GREATEST, LOWEST + 1):
            for step in ((far, 0, 0), (0, far, 0), (0, 0, far), (far, far, far), (1, far, -1), (far, -far // 8, 0)):
                with self.subTest(step=step):
                    self.assertEqual(replies([FULL, (MOVE, 0) + step, (COUNT, 0)]), [[0], [0], [0, 0]])

    def test_both_ends_at_once(self):
        for step in ((LOWEST, GREATEST, 0), (GREATEST, LOWEST, GREATEST), (0, GREATEST, LOWEST)):
            self.assertEqual(replies([FULL, (MOVE, 0) + step, (COUNT, 0)]), [[0], [0], [0, 0]])

    def test_an_empty_set(self):
        for step in ((1, 2, 3), (LOWEST, LOWEST, LOWEST), (GREATEST, GREATEST, GREATEST)):
            self.assertEqual(replies([(MOVE, 1) + step, (COUNT, 1)]), [[0], [0, 0]])


class Turn(unittest.TestCase):
    MAKING = FOUR_SETS[:4]
    CELLS = {(1, 2, 3), (2, 2, 3), (1, 4, 3), (1, 2, 6)}

    def test_one_cell(self):
        for turn, wanted in ((0, (1, 2, 3)), (8, (1, 3, 2)), (16, (2, 1, 3)), (24, (2, 3, 1)), (32, (3, 1, 2)),
                             (40, (3, 2, 1)), (1, (6, 2, 3)), (2, (1, 5, 3)), (4, (1, 2, 4)), (7, (6, 5, 4)),
                             (25, (5, 3, 1)), (26, (2, 4, 1)), (28, (2, 3, 6)), (35, (4, 6, 2)), (47, (4, 5, 6))):
            with self.subTest(turn=turn):
                self.assertEqual(taken([(SET, 0, 1, 2, 3, 1), (TURN, 0, turn)], 0), {wanted})

    def test_all_48(self):
        found = []
        for turn in range(48):
            cells = taken(self.MAKING + [(TURN, 0, turn)], 0)
            self.assertEqual(cells, model_turned(self.CELLS, turn))
            self.assertEqual(len(cells), 4)
            self.assertNotIn(cells, found)
            found.append(cells)
        self.assertEqual(len(found), 48)

    def test_each_is_taken_back_by_one(self):
        for turn in range(48):
            making = self.MAKING + [(WITH, 1, 0, COPY), (TURN, 1, turn)]
            backs = [back for back in range(48) if last_reply(making + [(TURN, 1, back), (SAME, 0, 1)]) == [0, 1]]
            self.assertEqual(len(backs), 1)

    def test_as_many_cells(self):
        making = [(BOX, 0, 0, 1, 2, 3, 6, 7, 1), (SET, 0, 1, 3, 5, 0), (SET, 0, 7, 0, 0, 1)]
        for turn in range(48):
            self.assertEqual(last_reply(making + [(TURN, 0, turn), (COUNT, 0)]), [0, 144])

    def test_empty_and_full(self):
        for turn in range(48):
            self.assertEqual(last_reply([(TURN, 0, turn), (COUNT, 0)]), [0, 0])
            self.assertEqual(last_reply([FULL, (TURN, 0, turn), (COUNT, 0)]), [0, 512])


if __name__ == "__main__":
    unittest.main()

"""grow, shrink, fill, keep: what goes by the cells beside one another."""

import unittest

from tests.helper import (
    BOX, COUNT, CUBE, FILL, FULL, GROW, KEEP, KINDS, SAME, SET, SHRINK,
    box, last_reply, model_filled, model_grown, model_piece, model_shrunk, repeated, replies, taken,
)


def differences(place, other):
    return [abs(a - b) for a, b in zip(place, other)]


def ball(place, kind):
    """The cells that differ from that place by at most 1, in at most kind + 1 numbers."""
    near = [other for other in CUBE if max(differences(place, other)) <= 1]
    return {other for other in near if sum(differences(place, other)) <= kind + 1}


class Grow(unittest.TestCase):
    def test_one_cell_within(self):
        for kind, many in zip(KINDS, (7, 19, 27)):
            cells = taken([(SET, 0, 3, 4, 5, 1), (GROW, 0, kind, 1)], 0)
            self.assertEqual(cells, ball((3, 4, 5), kind))
            self.assertEqual(len(cells), many)

    def test_at_the_outside(self):
        for place, many in (((0, 0, 0), (4, 7, 8)), ((7, 7, 7), (4, 7, 8)), ((7, 0, 7), (4, 7, 8)),
                            ((0, 0, 3), (5, 10, 12)), ((7, 3, 0), (5, 10, 12)), ((4, 7, 2), (6, 14, 18))):
            for kind in KINDS:
                with self.subTest(place=place, kind=kind):
                    cells = taken([(SET, 0) + place + (1,), (GROW, 0, kind, 1)], 0)
                    self.assertEqual(cells, ball(place, kind))
                    self.assertEqual(len(cells), many[kind])

    def test_times(self):
        start = {(0, 7, 0), (5, 3, 6)}
        making = [(SET, 0, 0, 7, 0, 1), (SET, 0, 5, 3, 6, 1)]
        for kind in KINDS:
            for n in range(9):
                with self.subTest(kind=kind, n=n):
                    cells = taken(making + [(GROW, 0, kind, n)], 0)
                    self.assertEqual(cells, repeated(model_grown, start, kind, n))

    def test_over_faces_eight_times_from_a_corner(self):
        wanted = {place for place in CUBE if sum(place) <= 8}
        self.assertEqual(taken([(SET, 0, 0, 0, 0, 1), (GROW, 0, 0, 8)], 0), wanted)

    def test_over_corners_seven_times_is_all(self):
        self.assertEqual(last_reply([(SET, 0, 0, 0, 0, 1), (GROW, 0, 2, 6), (COUNT, 0)]), [0, 343])
        self.assertEqual(last_reply([(SET, 0, 0, 0, 0, 1), (GROW, 0, 2, 7), (COUNT, 0)]), [0, 512])

    def test_empty_and_full(self):
        for kind in KINDS:
            for n in (0, 1, 8):
                self.assertEqual(replies([(GROW, 0, kind, n), (COUNT, 0)]), [[0], [0, 0]])
                self.assertEqual(replies([FULL, (GROW, 0, kind, n), (COUNT, 0)]), [[0], [0], [0, 512]])


class Shrink(unittest.TestCase):
    BLOCK = (BOX, 0, 2, 3, 4, 4, 5, 6, 1)

    def test_what_must_be_taken_beside(self):
        # Of a block of 3 by 3 by 3 the one in the middle stays, if all beside it are taken.
        for gone, stays in (((4, 5, 6), (1, 1, 0)), ((2, 5, 4), (1, 1, 0)), ((4, 5, 5), (1, 0, 0)),
                            ((3, 3, 4), (1, 0, 0)), ((3, 4, 6), (0, 0, 0)), ((2, 4, 5), (0, 0, 0))):
            for kind in KINDS:
                with self.subTest(gone=gone, kind=kind):
                    cells = taken([self.BLOCK, (SET, 0) + gone + (0,), (SHRINK, 0, kind, 1)], 0)
                    self.assertEqual(cells, {(3, 4, 5)} if stays[kind] else set())

    def test_a_block(self):
        for kind in KINDS:
            self.assertEqual(taken([self.BLOCK, (SHRINK, 0, kind, 1)], 0), {(3, 4, 5)})
            self.assertEqual(taken([self.BLOCK, (SHRINK, 0, kind, 2)], 0), set())

    def test_none_at_the_outside_stays(self):
        for kind in KINDS:
            self.assertEqual(taken([FULL, (SHRINK, 0, kind, 1)], 0), box(1, 1, 1, 6, 6, 6))
            self.assertEqual(taken([(BOX, 0, 0, 0, 0, 2, 7, 2, 1), (SHRINK, 0, kind, 1)], 0), box(1, 1, 1, 1, 6, 1))

    def test_times(self):
        for kind in KINDS:
            for n, many in enumerate((512, 216, 64, 8, 0, 0, 0, 0, 0)):
                self.assertEqual(replies([FULL, (SHRINK, 0, kind, n), (COUNT, 0)]), [[0], [0], [0, many]])
                self.assertEqual(replies([(SHRINK, 0, kind, n), (COUNT, 0)]), [[0], [0, 0]])

    def test_uneven_sets(self):
        making = [(BOX, 0, 0, 1, 1, 6, 6, 7, 1), (SET, 0, 3, 3, 3, 0), (BOX, 0, 5, 5, 0, 7, 7, 5, 1)]
        start = (box(0, 1, 1, 6, 6, 7) - {(3, 3, 3)}) | box(5, 5, 0, 7, 7, 5)
        for kind in KINDS:
            for n in range(4):
                with self.subTest(kind=kind, n=n):
                    cells = taken(making + [(SHRINK, 0, kind, n)], 0)
                    self.assertEqual(cells, repeated(model_shrunk, start, kind, n))


class Fill(unittest.TestCase):
    SHELL = [(BOX, 0, 2, 2, 2, 4, 4, 4, 1), (SET, 0, 3, 3, 3, 0)]

    def test_a_hollow(self):
        for kind in KINDS:
            self.assertEqual(taken(self.SHELL + [(FILL, 0, kind)], 0), box(2, 2, 2, 4, 4, 4))

    def test_a_hollow_that_opens_by_one_kind(self):
        # Through a face's middle it opens by all, at an edge by 1 and 2, at a corner by 2 alone.
        for gone, opens in (((3, 3, 2), (1, 1, 1)), ((4, 3, 3), (1, 1, 1)), ((4, 4, 3), (0, 1, 1)),
                            ((3, 2, 2), (0, 1, 1)), ((2, 4, 2), (0, 0, 1)), ((4, 4, 4), (0, 0, 1))):
            open_shell = box(2, 2, 2, 4, 4, 4) - {(3, 3, 3), gone}
            for kind in KINDS:
                with self.subTest(gone=gone, kind=kind):
                    wanted = open_shell if opens[kind] else open_shell | {(3, 3, 3)}
                    self.assertEqual(taken(self.SHELL + [(SET, 0) + gone + (0,), (FILL, 0, kind)], 0), wanted)

    def test_the_cube_s_outside_is_open(self):
        # A free cell at the outside is none of a hollow, whatever stands around it.
        for place in ((0, 0, 0), (7, 7, 7), (0, 3, 3), (4, 7, 4), (2, 5, 0), (7, 1, 6), (3, 0, 2), (5, 2, 7)):
            for kind in KINDS:
                with self.subTest(place=place, kind=kind):
                    self.assertEqual(taken([FULL, (SET, 0) + place + (0,), (FILL, 0, kind)], 0), set(CUBE) - {place})

    def test_a_wall_at_the_outside_closes(self):
        walls = [FULL, (BOX, 0, 1, 1, 1, 6, 6, 6, 0)]
        for kind in KINDS:
            self.assertEqual(last_reply(walls + [(FILL, 0, kind), (COUNT, 0)]), [0, 512])

    def test_two_hollows_and_a_bay(self):
        making = [FULL, (BOX, 0, 1, 1, 1, 2, 2, 2, 0), (BOX, 0, 3, 3, 3, 5, 3, 3, 0), (BOX, 0, 6, 6, 6, 6, 6, 7, 0)]
        start = set(CUBE) - box(1, 1, 1, 2, 2, 2) - box(3, 3, 3, 5, 3, 3) - box(6, 6, 6, 6, 6, 7)
        for kind in KINDS:
            cells = taken(making + [(FILL, 0, kind)], 0)
            self.assertEqual(cells, model_filled(start, kind))
            self.assertEqual(cells, set(CUBE) - box(6, 6, 6, 6, 6, 7))

    def test_a_long_way_out(self):
        # A free way that winds through a layer, with its one end at the outside.
        making = [FULL]
        for x in (1, 3, 5):
            making.append((BOX, 0, x, 1, 3, x, 6, 3, 0))
        making += [(SET, 0, 2, 6, 3, 0), (SET, 0, 4, 1, 3, 0), (SET, 0, 1, 0, 3, 0)]
        for kind in KINDS:
            self.assertEqual(last_reply(making + [(FILL, 0, kind), (COUNT, 0)]), [0, 512 - 21])
            closed = making + [(SET, 0, 1, 0, 3, 1), (FILL, 0, kind), (COUNT, 0)]
            self.assertEqual(last_reply(closed), [0, 512])

    def test_what_is_filled_has_no_hollows(self):
        making = self.SHELL + [(SET, 0, 4, 4, 3, 0), (BOX, 0, 0, 5, 5, 7, 7, 7, 1), (BOX, 0, 1, 6, 6, 3, 6, 6, 0)]
        for kind in KINDS:
            cells = taken(making + [(FILL, 0, kind)], 0)
            self.assertEqual(cells, model_filled(cells, kind))
            self.assertEqual(taken(making + [(FILL, 0, kind), (FILL, 0, kind)], 0), cells)

    def test_empty_and_full(self):
        for kind in KINDS:
            self.assertEqual(replies([(FILL, 0, kind), (COUNT, 0)]), [[0], [0, 0]])
            self.assertEqual(replies([FULL, (FILL, 0, kind), (COUNT, 0)]), [[0], [0], [0, 512]])


class Keep(unittest.TestCase):
    # Over a face, an edge and a corner, one cell behind another; and one alone.
    CHAIN = [(SET, 0, 1, 1, 1, 1), (SET, 0, 2, 1, 1, 1), (SET, 0, 3, 2, 1, 1), (SET, 0, 4, 3, 2, 1),
             (SET, 0, 6, 6, 6, 1)]

    def test_by_each_kind(self):
        a, b, c, d, alone = (1, 1, 1), (2, 1, 1), (3, 2, 1), (4, 3, 2), (6, 6, 6)
        for kind, pieces in ((0, ({a, b}, {c}, {d}, {alone})), (1, ({a, b, c}, {d}, {alone})),
                             (2, ({a, b, c, d}, {alone}))):
            for piece in pieces:
                for place in piece:
                    with self.subTest(kind=kind, place=place):
                        self.assertEqual(taken(self.CHAIN + [(KEEP, 0, kind) + place], 0), piece)

    def test_of_a_free_cell(self):
        for kind in KINDS:
            for place in ((0, 0, 0), (1, 2, 1), (7, 7, 7)):
                self.assertEqual(replies(self.CHAIN + [(KEEP, 0, kind) + place, (COUNT, 0)])[-2:], [[0], [0, 0]])
            self.assertEqual(replies([(KEEP, 0, kind, 3, 3, 3), (COUNT, 0)]), [[0], [0, 0]])

    def test_pieces_part_the_taken_cells(self):
        making = [(BOX, 0, 0, 0, 0, 7, 2, 7, 1), (BOX, 0, 3, 0, 0, 3, 7, 7, 0), (BOX, 0, 0, 4, 0, 7, 7, 7, 1),
                  (BOX, 0, 5, 4, 5, 5, 7, 5, 0)]
        cells = taken(making, 0)
        for kind in KINDS:
            left = set(cells)
            while left:
                place = min(left)
                piece = taken(making + [(KEEP, 0, kind) + place], 0)
                self.assertEqual(piece, model_piece(cells, kind, place))
                self.assertTrue(piece <= left)
                left -= piece

    def test_rows_are_not_one_another_s_neighbours(self):
        # Cells that follow one another by number, but lie at two ends of the cube.
        making = [(SET, 0, 7, 3, 3, 1), (SET, 0, 0, 4, 3, 1), (SET, 0, 7, 7, 4, 1), (SET, 0, 0, 0, 5, 1)]
        for kind in KINDS:
            for place in ((7, 3, 3), (0, 4, 3), (7, 7, 4), (0, 0, 5)):
                self.assertEqual(taken(making + [(KEEP, 0, kind) + place], 0), {place})

    def test_full(self):
        for kind in KINDS:
            calls = [FULL, (BOX, 1, 0, 0, 0, 7, 7, 7, 1), (KEEP, 0, kind, 5, 0, 7), (SAME, 0, 1)]
            self.assertEqual(last_reply(calls), [0, 1])


if __name__ == "__main__":
    unittest.main()

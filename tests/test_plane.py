"""plane: where planes lie, damp and dry, and its refusals."""

import unittest

from tests.asking import WAYS, ask, to_bytes
from tests.turning import own_axes
from woodswell.swelling import plane

UNIT = 100000
MOST = 4294967295
CORNER = (5, 7, 9)
LENGTHS = (2, 3, 4)
DAMPS = (-200, -199, -1, 0, 1, 7, 200)


def one_put(ways, grain):
    return to_bytes("part a 2 3 4 {}\nput a {} {} {} {}\n".format(grain, ways, *CORNER))


def put_kinds():
    """Of each way and grain: the text, the axis along the grain, the turned block's lengths."""
    for ways in WAYS:
        axes = own_axes(ways)
        lengths = [0, 0, 0]
        for own in range(3):
            lengths[axes[own]] = LENGTHS[own]
        for grain in range(3):
            yield ways, "xyz"[grain], axes[grain], lengths


def place(axis, t, m, text, swell, corner):
    answer = ask(plane, 0, axis, t, m, text, [swell], [corner])
    assert len(answer) == 2 and answer[0] == 0, answer
    return answer[1]


class Planes(unittest.TestCase):
    def test_written_out(self):
        text = one_put("rb", "z")
        self.assertEqual(ask(plane, 0, 0, 7, 200, text, [100], [0]), [0, 740000])
        self.assertEqual(ask(plane, 0, 0, 7, -200, text, [100], [0]), [0, 660000])
        self.assertEqual(ask(plane, 0, 0, 5, 200, text, [100], [1]), [0, 460000])
        self.assertEqual(ask(plane, 0, 0, 5, -200, text, [100], [1]), [0, 540000])
        self.assertEqual(ask(plane, 0, 1, 8, 1, text, [1], [0]), [0, 800001])
        self.assertEqual(ask(plane, 0, 1, 8, -1, text, [1], [2]), [0, 800002])
        self.assertEqual(ask(plane, 0, 2, 13, 200, text, [100], [7]), [0, 1300000])
        self.assertEqual(ask(plane, 0, 0, 0, 200, text, [100], [0]), [0, -100000])
        self.assertEqual(ask(plane, 0, 0, 64, 200, text, [100], [0]), [0, 500000 + 59 * 120000])

    def test_at_dampness_0_all_lies_as_told(self):
        for ways, grain, along, lengths in put_kinds():
            text = one_put(ways, grain)
            for axis in range(3):
                for t in (0, 4, 6, 10, 63, 64):
                    for swell, corner in ((0, 0), (100, 7), (37, 2)):
                        self.assertEqual(place(axis, t, 0, text, swell, corner), t * UNIT)

    def test_along_the_grain_nothing_moves(self):
        for ways, grain, along, lengths in put_kinds():
            text = one_put(ways, grain)
            for m in DAMPS:
                for t, swell, corner in ((0, 100, 0), (8, 1, 7), (11, 50, 3), (64, 100, 5)):
                    with self.subTest(ways=ways, grain=grain, m=m, t=t):
                        self.assertEqual(place(along, t, m, text, swell, corner), t * UNIT)

    def test_across_the_grain_from_each_held_corner(self):
        for ways, grain, along, lengths in put_kinds():
            text = one_put(ways, grain)
            for corner in range(8):
                for axis in {0, 1, 2} - {along}:
                    end = (corner // 2 ** axis) % 2
                    fixed = CORNER[axis] + (lengths[axis] if end == 1 else 0)
                    with self.subTest(ways=ways, grain=grain, corner=corner, axis=axis):
                        for m in (-200, -1, 1, 200):
                            self.assertEqual(place(axis, fixed, m, text, 100, corner), fixed * UNIT)
                        self.assertEqual(place(axis, fixed + 1, 200, text, 100, corner), fixed * UNIT + 120000)
                        self.assertEqual(place(axis, fixed - 1, 200, text, 100, corner), fixed * UNIT - 120000)
                        self.assertEqual(place(axis, fixed + 2, -200, text, 100, corner), fixed * UNIT + 160000)
                        self.assertEqual(place(axis, fixed - 2, -200, text, 100, corner), fixed * UNIT - 160000)

    def test_swells_and_dampnesses(self):
        text = one_put("ur", "y")
        # Turned so, the part's x lies along z, its y along x and its z along y.
        for axis, fixed in ((1, 7), (2, 9)):
            for swell in (0, 1, 2, 99, 100):
                for m in (-200, -1, 1, 200):
                    for t in (0, fixed - 1, fixed, fixed + 1, 64):
                        with self.subTest(axis=axis, swell=swell, m=m, t=t):
                            moved = t * UNIT + (t - fixed) * swell * m
                            self.assertEqual(place(axis, t, m, text, swell, 0), moved)
        self.assertEqual(place(0, 64, 200, text, 100, 0), 64 * UNIT)

    def test_planes_keep_their_order(self):
        for grain in "xyz":
            text = one_put("fd", grain)
            for axis in range(3):
                for m in (-200, 200):
                    for corner in (0, 7):
                        planes = [place(axis, t, m, text, 100, corner) for t in range(65)]
                        self.assertEqual(planes, sorted(set(planes)))

    def test_each_put_has_its_own_swell_and_held_corner(self):
        text = to_bytes("part a 2 2 2 x\npart b 3 3 3 z\nput b rb 10 10 10\nput a rb 0 0 0\nput a br 20 20 20\n")
        swells = [10, 20, 30]
        held = [0, 2, 1]
        self.assertEqual(ask(plane, 0, 0, 12, 100, text, swells, held), [0, 1000000 + 2 * 101000])
        self.assertEqual(ask(plane, 0, 2, 12, 100, text, swells, held), [0, 1200000])
        self.assertEqual(ask(plane, 1, 0, 1, 100, text, swells, held), [0, 100000])
        self.assertEqual(ask(plane, 1, 1, 1, 100, text, swells, held), [0, 200000 - 102000])
        self.assertEqual(ask(plane, 2, 0, 20, 100, text, swells, held), [0, 2200000 - 2 * 103000])
        self.assertEqual(ask(plane, 2, 1, 21, 100, text, swells, held), [0, 2100000])

    def test_cuts_move_no_plane(self):
        text = to_bytes("part a 2 3 4 z\ncut 0 0 0 1 3 4\nput a rb 5 7 9\n")
        self.assertEqual(place(0, 7, 200, text, 100, 0), 740000)
        self.assertEqual(place(0, 5, 200, text, 100, 1), 460000)

    def test_at_the_grid_s_ends(self):
        text = to_bytes("part a 16 16 16 z\nput a rb 48 48 48\n")
        self.assertEqual(place(0, 0, 200, text, 100, 1), 6400000 - 64 * 120000)
        self.assertEqual(place(1, 64, -200, text, 100, 2), 6400000)


class Refusals(unittest.TestCase):
    TEXT = one_put("rb", "z")

    def answers(self, answer, i, axis, t, m, text, swells, held):
        with self.subTest(i=i, axis=axis, t=t, m=m, swells=swells, held=held):
            self.assertEqual(ask(plane, i, axis, t, m, text, swells, held), answer)

    def test_no_such_put(self):
        self.answers([0, 500000], 0, 0, 5, 0, self.TEXT, [0], [0])
        for i in (1, 2, MOST):
            self.answers([-4], i, 0, 5, 0, self.TEXT, [0], [0])
        for text in ([], to_bytes("part a 2 3 4 x\n")):
            for i in (0, 1, MOST):
                self.answers([-4], i, 0, 0, 0, text, [], [])
        many = to_bytes("part a 1 1 1 x\n" + "".join(f"put a rb {k} 0 0\n" for k in range(32)))
        self.answers([0, 3100000], 31, 0, 31, 200, many, [9] * 32, [0] * 32)
        self.answers([-4], 32, 0, 31, 200, many, [9] * 32, [0] * 32)

    def test_axis(self):
        self.answers([0, 900000], 0, 2, 9, 0, self.TEXT, [0], [0])
        for axis in (3, 4, MOST):
            self.answers([-1], 0, axis, 9, 0, self.TEXT, [0], [0])

    def test_t(self):
        for t in (0, 64):
            self.answers([0, t * UNIT], 0, 0, t, 0, self.TEXT, [0], [0])
        for t in (65, 66, MOST):
            self.answers([-1], 0, 0, t, 0, self.TEXT, [0], [0])

    def test_m(self):
        for m in (-200, 200):
            self.answers([0, 700000 + 2 * 100 * m], 0, 0, 7, m, self.TEXT, [100], [0])
        for m in (-201, 201, -2147483648, 2147483647):
            self.answers([-1], 0, 0, 7, m, self.TEXT, [100], [0])
            self.answers([-1], 0, 2, 7, m, self.TEXT, [0], [0])

    def test_swells_and_held_corners(self):
        for swells, held in (([], []), ([0], []), ([], [0]), ([0, 0], [0]), ([0], [0, 0]), ([101], [0]), ([MOST], [0]),
                             ([0], [8]), ([0], [MOST])):
            self.answers([-1], 0, 0, 0, 0, self.TEXT, swells, held)
        self.answers([0, 0], 0, 2, 0, 0, self.TEXT, [100], [7])
        two = to_bytes("part a 1 1 1 x\nput a rb 0 0 0\nput a rb 1 0 0\n")
        # What's told of another put is judged too.
        self.answers([-1], 0, 0, 0, 0, two, [0, 101], [0, 0])
        self.answers([-1], 0, 0, 0, 0, two, [0, 0], [0, 8])

    def test_their_order(self):
        overlap = to_bytes("part a 1 1 1 x\nput a rb 0 0 0\nput a rb 5 0 0\nput a rb 5 0 0\n")
        fault = overlap + to_bytes("put a rb 49 0 0\n")
        wrong = ((MOST, 3, 0, 0), (MOST, 0, 65, 0), (MOST, 0, 0, 201), (MOST, 0, 0, -201),
                 (MOST, 0, 0, 0), (0, 0, 0, 0))
        for i, axis, t, m in wrong:
            self.answers([-2], i, axis, t, m, [10] * 65537, [], [])
            self.answers([-2], i, axis, t, m, fault, [0] * 33, [0])
            self.answers([-2], i, axis, t, m, overlap, [0], [8] * 33)
            self.answers([-6, 0, 1], i, axis, t, m, [10] * 65536, [101], [])
            self.answers([-6, 4, 1], i, axis, t, m, fault, [0], [8])
            self.answers([-9, 1, 2], i, axis, t, m, overlap, [0, 0, 0], [0, 0, 0])
            self.answers([-9, 1, 2], i, axis, t, m, overlap, [101], [8])
            self.answers([-1], i, axis, t, m, self.TEXT, [101], [0])
            self.answers([-1], i, axis, t, m, self.TEXT, [], [0])
        for i, axis, t, m in wrong[:4]:
            self.answers([-1], i, axis, t, m, self.TEXT, [0], [0])
            self.answers([-1], i, axis, t, m, [], [], [])


if __name__ == "__main__":
    unittest.main()

"""gap: how far two puts come apart along an axis, or are pressed into one another."""

import itertools
import random
import unittest

from tests import reference
from tests.asking import WAYS, ask, to_bytes
from tests.turning import crooked_part, turned_cells, turned_neighbours
from tests.works import close_work, crowd_work
from woodswell.swelling import gap, plane

DAMPS = (-200, -199, -100, -2, -1, 0, 1, 2, 100, 199, 200)
FEW_DAMPS = (-200, -1, 0, 1, 200)
X, Y, Z = 0, 1, 2
LEFT, RIGHT = 0, 1
NONE = None


class GapCase(unittest.TestCase):
    def answers(self, expected, axis, m, text, swells, held, i=0, j=1):
        answer = [-3] if expected is NONE else [0, expected]
        with self.subTest(axis=axis, m=m, text=text, swells=swells, held=held, i=i, j=j):
            self.assertEqual(ask(gap, i, j, axis, m, to_bytes(text), swells, held), answer)
            self.assertEqual(ask(gap, j, i, axis, m, to_bytes(text), swells, held), answer)

    def beside_along(self, axes, text, swells=(100, 100), held=(0, 0)):
        """The two have cells beside one another along just these axes."""
        for axis in range(3):
            self.answers(0 if axis in axes else NONE, axis, 0, text, list(swells), list(held))
            if axis not in axes:
                for m in (-200, -1, 1, 200):
                    self.answers(NONE, axis, m, text, list(swells), list(held))


class SideBySide(GapCase):
    # Along x they touch at 12; x is across the grain.
    TEXT = "part a 2 2 2 z\nput a rb 10 10 10\nput a rb 12 10 10\n"

    def test_written_out(self):
        self.answers(-40000, X, 200, self.TEXT, [100, 0], [LEFT, LEFT])
        self.answers(40000, X, -200, self.TEXT, [100, 0], [LEFT, LEFT])
        self.answers(-2, X, 1, self.TEXT, [1, 0], [LEFT, LEFT])
        self.answers(2, X, -1, self.TEXT, [0, 1], [LEFT, RIGHT])
        self.answers(-80000, X, 200, self.TEXT, [100, 100], [LEFT, RIGHT])
        self.answers(80000, X, -200, self.TEXT, [100, 100], [LEFT, RIGHT])

    def test_damp_and_dry(self):
        for m in DAMPS:
            for swells in ([1, 1], [100, 100], [37, 80], [0, 5], [5, 0], [0, 0]):
                self.answers(-2 * swells[0] * m, X, m, self.TEXT, swells, [LEFT, LEFT])
                self.answers(-2 * swells[1] * m, X, m, self.TEXT, swells, [RIGHT, RIGHT])
                self.answers(-2 * sum(swells) * m, X, m, self.TEXT, swells, [LEFT, RIGHT])
                # Held where they touch.
                self.answers(0, X, m, self.TEXT, swells, [RIGHT, LEFT])

    def test_the_other_put_stands_first(self):
        text = "part a 2 2 2 z\nput a rb 12 10 10\nput a rb 10 10 10\n"
        for m in DAMPS:
            self.answers(-2 * 30 * m, X, m, text, [70, 30], [LEFT, LEFT])
            self.answers(-2 * 70 * m, X, m, text, [70, 30], [RIGHT, RIGHT])

    def test_at_0(self):
        for axis in range(3):
            corner = [10, 10, 10]
            corner[axis] = 12
            for grain in "xyz":
                text = "part a 2 2 2 {}\nput a rb 10 10 10\nput a rb {} {} {}\n".format(grain, *corner)
                for held in itertools.product(range(8), repeat=2):
                    self.answers(0, axis, 0, text, [100, 1], list(held))

    def two_blocks(self, axis, grains):
        sides = ((3, 4, 5), (2, 6, 3))
        corner = [20, 20, 20]
        corner[axis] += sides[0][axis]
        text = "part a 3 4 5 {}\npart b 2 6 3 {}\nput a rb 20 20 20\nput b rb {} {} {}\n".format(*grains, *corner)
        return text, [side[axis] for side in sides]

    def two_answer(self, axis, grains, swells, held, m):
        text, lengths = self.two_blocks(axis, grains)
        # The first's face moves unless it's held there, at its upper end, the second's unless held at its lower.
        moves = ["xyz"[axis] != grains[k] and (held[k] >> axis) & 1 == k for k in range(2)]
        apart = -sum(lengths[k] * swells[k] * m for k in range(2) if moves[k])
        self.answers(apart, axis, m, text, list(swells), list(held))

    def test_each_axis_and_each_held_corner(self):
        for axis, m in itertools.product(range(3), FEW_DAMPS):
            grain = "xyz"[(axis + 1) % 3]
            for held in itertools.product(range(8), repeat=2):
                self.two_answer(axis, grain * 2, (100, 37), held, m)

    def test_grains_and_swells(self):
        for axis, grains in itertools.product(range(3), itertools.product("xyz", repeat=2)):
            for swells, m in itertools.product(itertools.product((0, 1, 100), repeat=2), FEW_DAMPS):
                self.two_answer(axis, grains, swells, (0, 7), m)

    def test_along_the_grain(self):
        for axis in range(3):
            corner = [10, 10, 10]
            corner[axis] = 12
            text = "part a 2 2 2 {}\nput a rb 10 10 10\nput a rb {} {} {}\n".format("xyz"[axis], *corner)
            for held in ([0, 0], [0, 7], [7, 0], [7, 7]):
                for m in DAMPS:
                    self.answers(0, axis, m, text, [100, 100], held)

    def test_the_grain_is_turned_with_the_part(self):
        for axis, along, text in turned_neighbours():
            self.answers(0 if along else -4, axis, 1, text, [1, 1], [0, 7])


class BothWays(GapCase):
    # The tenon lies from 11 to 21, as its hole does.
    TEXT = "part m 12 4 4 z\ncut 1 0 0 10 4 4\npart t 10 4 4 z\nput m rb 10 10 10\nput t rb 11 10 10\n"

    def test_the_tenon_moves(self):
        # On the side where it's held it stays, on the other it shrinks off the hole's end or presses into it.
        for held in (LEFT, RIGHT):
            self.answers(200000, X, -200, self.TEXT, [0, 100], [LEFT, held])
            self.answers(10, X, -1, self.TEXT, [0, 1], [LEFT, held])
            self.answers(0, X, 0, self.TEXT, [0, 100], [LEFT, held])
            self.answers(0, X, 1, self.TEXT, [0, 1], [LEFT, held])
            self.answers(0, X, 200, self.TEXT, [0, 100], [LEFT, held])

    def test_the_hole_moves(self):
        # Its left end lies at 10 + f, its right end at 10 + 11 f.
        self.answers(20000, X, -200, self.TEXT, [100, 0], [LEFT, LEFT])
        self.answers(1, X, -1, self.TEXT, [1, 0], [LEFT, LEFT])
        self.answers(11, X, 1, self.TEXT, [1, 0], [LEFT, LEFT])
        self.answers(220000, X, 200, self.TEXT, [100, 0], [LEFT, LEFT])
        # Held at its right: 22 - 11 f and 22 - f.
        self.answers(20000, X, -200, self.TEXT, [100, 0], [RIGHT, LEFT])
        self.answers(220000, X, 200, self.TEXT, [100, 0], [RIGHT, LEFT])

    def test_both_move(self):
        # Held at 10 and 11: the ends are 11 - (10 + f) and 10 + 11 f - (11 + 10 g) apart.
        for one, other, m in itertools.product((0, 1, 40, 100), (0, 1, 40, 100), FEW_DAMPS):
            self.answers(max(-one * m, (11 * one - 10 * other) * m), X, m, self.TEXT, [one, other], [LEFT, LEFT])

    def test_pressed_at_both_ends(self):
        # The hole's left end comes by 40 m, the tenon's right by 1000 m and the hole's right goes by 440 m.
        self.answers(-8000, X, 200, self.TEXT, [40, 100], [LEFT, LEFT])
        self.answers(112000, X, -200, self.TEXT, [40, 100], [LEFT, LEFT])
        self.answers(-40, X, 1, self.TEXT, [40, 100], [LEFT, LEFT])
        self.answers(560, X, -1, self.TEXT, [40, 100], [LEFT, LEFT])

    def test_each_axis(self):
        for axis in range(3):
            sides, start, hole = [4, 4, 4], [0, 0, 0], [4, 4, 4]
            sides[axis], start[axis], hole[axis] = 12, 1, 10
            place = [10 + step for step in start]
            text = ("part m {} {} {} {}\ncut {} {} {} {} {} {}\npart t {} {} {} {}\n"
                    "put m rb 10 10 10\nput t rb {} {} {}\n")
            grain = "xyz"[(axis + 1) % 3]
            text = text.format(*sides, grain, *start, *hole, *hole, grain, *place)
            self.answers(20000, axis, -200, text, [100, 0], [0, 0])
            self.answers(220000, axis, 200, text, [100, 0], [0, 0])
            self.answers(200000, axis, -200, text, [0, 100], [0, 7])
            for other in {0, 1, 2} - {axis}:
                self.answers(NONE, other, 200, text, [100, 0], [0, 0])

    def test_with_room_at_one_end(self):
        text = "part m 12 4 4 z\ncut 1 0 0 10 4 4\npart t 9 4 4 z\nput m rb 10 10 10\nput t rb {} 10 10\n"
        for m in FEW_DAMPS:
            # Only the left ends lie beside one another at 0, whatever the right ends do then.
            self.answers(-100 * m, X, m, text.format(11), [100, 0], [LEFT, LEFT])
            # Only the right ends.
            self.answers(1100 * m, X, m, text.format(12), [100, 0], [LEFT, LEFT])
            self.answers(NONE, X, m, text.format(12).replace("part t 9", "part t 8"), [100, 0], [LEFT, LEFT])


class SeveralPlaces(GapCase):
    # The first has the cells with x + z below 4, the second the others.
    STAIRS = ("part a 4 1 4 y\n" + "".join(f"cut {4 - z} 0 {z} {z} 1 1\n" for z in range(1, 4))
              + "part b 4 1 4 y\n" + "".join(f"cut 0 0 {z} {4 - z} 1 1\n" for z in range(4))
              + "put a rb 10 10 10\nput b rb 10 10 10\n")

    def test_stairs(self):
        for axis in (X, Z):
            # The faces lie at 11, 12, 13; from 10 they move by a cell's, two and three cells' growth.
            for m in FEW_DAMPS:
                self.answers(max(-1 * 100 * m, -3 * 100 * m), axis, m, self.STAIRS, [100, 0], [0, 0])
                # From 14.
                self.answers(max(1 * 100 * m, 3 * 100 * m), axis, m, self.STAIRS, [100, 0], [7, 0])
                self.answers(max(1 * 7 * m, 3 * 7 * m), axis, m, self.STAIRS, [0, 7], [0, 0])
                self.answers(0, axis, m, self.STAIRS, [100, 100], [0, 0])
                # The one from 14, the other from 10: everywhere by the growth of 4 cells.
                self.answers(4 * 50 * m, axis, m, self.STAIRS, [50, 50], [7, 0])
        self.answers(NONE, Y, 100, self.STAIRS, [100, 0], [0, 0])

    def test_teeth(self):
        # The first has the cells from 10, 12, 14, 16 on, the second those from 11, 13, 15, 17 on.
        text = ("part a 7 1 1 z\n" + "".join(f"cut {k} 0 0 1 1 1\n" for k in (1, 3, 5))
                + "part b 8 1 1 z\n" + "".join(f"cut {k} 0 0 1 1 1\n" for k in (0, 2, 4, 6))
                + "put a rb 10 0 0\nput b rb 10 0 0\n")
        # Damp, the faces at 16 come apart the most, of which the first's is the upper; dry, those at 17.
        self.answers(120000, X, 200, text, [100, 0], [LEFT, LEFT])
        self.answers(140000, X, -200, text, [100, 0], [LEFT, LEFT])
        self.answers(6, X, 1, text, [1, 0], [LEFT, LEFT])
        self.answers(7, X, -1, text, [1, 0], [LEFT, LEFT])
        # Held at 17, the faces at 12 and at 11.
        self.answers(120000, X, 200, text, [100, 0], [RIGHT, LEFT])
        self.answers(100000, X, -200, text, [100, 0], [RIGHT, LEFT])
        self.answers(0, X, 0, text, [100, 0], [RIGHT, LEFT])

    def test_one_place_far_from_the_others(self):
        # A hook: its foot ends at 12, its head at 25; beside each lies some of the other.
        text = ("part a 16 1 3 z\ncut 2 0 1 14 1 1\ncut 15 0 2 1 1 1\ncut 2 0 0 14 1 1\n"
                "part b 14 1 3 z\ncut 13 0 0 1 1 3\ncut 0 0 2 14 1 1\nput a rb 10 10 10\nput b rb 12 10 10\n")
        for m in FEW_DAMPS:
            self.answers(-2 * 100 * m, X, m, text, [100, 0], [LEFT, LEFT])
            self.answers(14 * 100 * m, X, m, text, [100, 0], [RIGHT, LEFT])
            # Up they lie beside one another, too, and along their grain.
            self.answers(0, Z, m, text, [100, 0], [LEFT, LEFT])
        more = text.replace("cut 13 0 0 1 1 3\ncut 0 0 2 14 1 1\n", "cut 0 0 2 13 1 1\n")
        for m in FEW_DAMPS:
            self.answers(max(-2 * 100 * m, -15 * 100 * m), X, m, more, [100, 0], [LEFT, LEFT])
            self.answers(max(14 * 100 * m, 1 * 100 * m), X, m, more, [100, 0], [RIGHT, LEFT])


class WhatLiesBeside(GapCase):
    AT = "part a 2 2 2 z\nput a rb 10 10 10\nput a rb {} {} {}\n"

    def test_along_one_axis_alone(self):
        for axis in range(3):
            for step in (-2, 2):
                corner = [10, 10, 10]
                corner[axis] += step
                self.beside_along([axis], self.AT.format(*corner))
                # Shifted, one row of cells is left that lies beside another.
                corner[(axis + 1) % 3] += 1
                corner[(axis + 2) % 3] -= 1
                self.beside_along([axis], self.AT.format(*corner))

    def test_an_edge_a_corner_and_nothing(self):
        for steps in itertools.product((-2, 0, 2), repeat=3):
            if sum(step != 0 for step in steps) > 1:
                self.beside_along([], self.AT.format(*(10 + step for step in steps)))
        for far in ("13 10 10", "7 10 10", "10 13 10", "10 10 7", "48 48 48", "0 0 0", "10 10 40"):
            self.beside_along([], self.AT.format(*far.split(" ")))

    def test_along_several_axes(self):
        # An angle, and what lies in it.
        text = "part m 3 3 3 z\ncut 1 1 1 2 2 2\npart t 2 2 2 x\nput m rb 10 10 10\nput t rb 11 11 11\n"
        self.beside_along([X, Y, Z], text)
        self.beside_along([Y, Z], text.replace("cut 1 1 1 2 2 2", "cut 0 1 1 3 2 2"))
        self.beside_along([Z], text.replace("cut 1 1 1 2 2 2", "cut 0 0 1 3 3 2"))
        self.beside_along([], text.replace("cut 1 1 1 2 2 2", "cut 0 0 0 3 3 3"))

    def test_at_the_grid_s_ends(self):
        text = "part a 16 16 16 z\nput a rb 0 0 0\nput a rb 16 0 0\nput a rb 48 48 48\nput a rb 48 48 32\n"
        self.answers(-320000, X, 200, text, [100] * 4, [0, 0, 7, 7])
        self.answers(0, Z, 200, text, [100] * 4, [0, 0, 7, 7], 2, 3)
        text = text.replace("z\n", "y\n")
        self.answers(-320000, Z, 200, text, [100] * 4, [0, 0, 7, 7], 2, 3)
        self.answers(640000, Z, -200, text, [100] * 4, [0, 0, 7, 0], 2, 3)
        for axis in range(3):
            self.answers(NONE, axis, 200, text, [100] * 4, [0, 0, 7, 7], 0, 3)


class Cuts(GapCase):
    def test_what_is_cut_away_lies_beside_nothing(self):
        text = "part a 2 2 2 z\ncut 1 0 0 1 2 2\npart b 2 2 2 z\nput a {} 10 10 10\nput b rb {} 10 10\n"
        self.beside_along([], text.format("rb", 12))
        # Turned by lb, the cut is at its left.
        self.beside_along([X], text.format("lb", 12))
        self.beside_along([X], text.format("rb", 11))
        self.beside_along([], text.format("lb", 8))
        self.beside_along([X], text.format("lb", 9))
        # Where the cut ends, the faces lie at 11, and grow by one cell's growth.
        self.answers(-20000, X, 200, text.format("rb", 11), [100, 0], [LEFT, LEFT])
        self.answers(-40000, X, 200, text.format("lb", 12), [100, 0], [LEFT, LEFT])

    def test_one_cell_that_is_left(self):
        cells = list(itertools.product(range(2), repeat=2))
        for left in cells:
            cuts = "".join(f"cut 1 {y} {z} 1 1 1\n" for y, z in cells if (y, z) != left)
            text = f"part a 2 2 2 z\n{cuts}part b 1 1 1 z\nput a rb 10 10 10\n"
            for y, z in cells:
                self.beside_along([X] if (y, z) == left else [], text + f"put b rb 12 {10 + y} {10 + z}\n")

    def test_cut_away_altogether(self):
        text = "part n 2 2 2 z\ncut 0 0 0 2 2 2\npart a 2 2 2 z\nput n rb 10 10 10\nput a rb {} 10 10\n"
        for place in (8, 9, 10, 11, 12):
            self.beside_along([], text.format(place))

    def test_cuts_that_cut_the_same(self):
        text = ("part a 3 1 1 z\ncut 2 0 0 1 1 1\ncut 1 0 0 2 1 1\ncut 2 0 0 1 1 1\npart b 1 1 1 z\n"
                "put a rb 10 10 10\nput b rb {} 10 10\n")
        for place in (9, 11):
            self.beside_along([X], text.format(place))
        for place in (8, 12, 13):
            self.beside_along([], text.format(place))

    def test_turned_not_mirrored(self):
        part = crooked_part("a", "z") + "part c 1 1 1 x\n"
        shapes = set()
        for ways in WAYS:
            cells = turned_cells(ways)
            shapes.add(frozenset(cells))
            for place in itertools.product(range(-1, 5), repeat=3):
                if place in cells:
                    continue
                text = to_bytes(part + "put a {} 10 10 10\nput c rb {} {} {}\n".format(ways, *(10 + k for k in place)))
                for axis in range(3):
                    near = {tuple(place[k] + step * (k == axis) for k in range(3)) for step in (-1, 1)}
                    answer = [0, 0] if near & cells else [-3]
                    self.assertEqual(gap(0, 1, axis, 200, text, [0, 0], [0, 0]), answer, (ways, place, axis))
        self.assertEqual(len(shapes), 24)


class AgainstPlane(GapCase):
    def faces(self, one, other, axis):
        """Each plane at which a cell of the one ends and a cell of the other begins, beside it."""
        return {cell[axis] + 1 for cell in one
                if tuple(cell[k] + (k == axis) for k in range(3)) in other}

    def test_where_the_two_faces_lie(self):
        dice = random.Random(26)
        seen = {-1: 0, 0: 0, 1: 0, NONE: 0}
        for case in range(300):
            text, swells, held = (close_work, crowd_work)[case % 3 // 2](dice)
            cells = [put["cells"] for put in reference.read(text)]
            places = {}
            for i, j in itertools.permutations(range(len(cells)), 2):
                for axis in range(3):
                    places.setdefault((min(i, j), max(i, j), axis), []).extend(
                        (i, j, t) for t in self.faces(cells[i], cells[j], axis))
            touching = [pair for pair in places if places[pair]]
            for i, j, axis in dice.sample(touching, min(len(touching), 6)) + dice.sample(list(places), 1):
                m = dice.choice((-200, -1, 1, 200, dice.randint(-200, 200)))
                apart = []
                for lower, upper, t in places[i, j, axis]:
                    lies = [plane(k, axis, t, m, text, swells, held)[1] for k in (lower, upper)]
                    apart.append(lies[1] - lies[0])
                expected = max(apart) if apart else NONE
                self.answers(expected, axis, m, bytes(text).decode(), swells, held, i, j)
                seen[expected if expected is NONE else (expected > 0) - (expected < 0)] += 1
        for kind in seen:
            self.assertGreater(seen[kind], 50, seen)


class ManyPuts(GapCase):
    def test_the_pair_that_is_asked_of(self):
        text = "part a 2 2 2 z\npart b 4 2 2 z\n" \
               "put a rb 0 0 0\nput a rb 2 0 0\nput b rb 4 0 0\nput a rb 20 0 0\nput a rb 20 2 0\n"
        swells, held = [10, 30, 50, 100, 0], [LEFT, LEFT, RIGHT, RIGHT, LEFT]
        told = {(0, 1, X): -2 * 10 * 50, (1, 2, X): -2 * 30 * 50 - 4 * 50 * 50, (3, 4, Y): -2 * 100 * 50}
        for i, j in itertools.combinations(range(5), 2):
            for axis in range(3):
                self.answers(told.get((i, j, axis), NONE), axis, 50, text, swells, held, i, j)


if __name__ == "__main__":
    unittest.main()

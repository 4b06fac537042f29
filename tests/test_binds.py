"""binds: whether two puts press into one another at a dampness."""

import itertools
import unittest

from tests.asking import WAYS, ask, to_bytes
from tests.turning import crooked_part, turned_cells, turned_neighbours
from woodswell.swelling import binds

DAMPS = (-200, -199, -100, -2, -1, 0, 1, 2, 100, 199, 200)
DAMP = [m for m in DAMPS if m > 0]
DRY = [m for m in DAMPS if m < 0]
LEFT, RIGHT = 0, 1


class BindsCase(unittest.TestCase):
    def answers(self, expected, m, text, swells, held, i=0, j=1):
        with self.subTest(m=m, text=text, swells=swells, held=held):
            self.assertEqual(ask(binds, i, j, m, to_bytes(text), swells, held), [expected])
            self.assertEqual(ask(binds, j, i, m, to_bytes(text), swells, held), [expected])

    def bound_just_at(self, bound, text, swells, held):
        for m in DAMPS:
            self.answers(int(m in bound), m, text, swells, held)


class SideBySide(BindsCase):
    # Along x they touch at 12; x is across the grain.
    TEXT = "part a 2 2 2 z\nput a rb 10 10 10\nput a rb 12 10 10\n"

    def test_they_press_into_one_another_when_damp(self):
        self.bound_just_at(DAMP, self.TEXT, [1, 0], [LEFT, LEFT])
        self.bound_just_at(DAMP, self.TEXT, [0, 1], [RIGHT, RIGHT])
        self.bound_just_at(DAMP, self.TEXT, [100, 100], [LEFT, RIGHT])
        self.bound_just_at(DAMP, self.TEXT, [100, 1], [LEFT, RIGHT])

    def test_held_where_they_touch(self):
        for swells in ([1, 1], [0, 100], [100, 0], [100, 100], [100, 1]):
            self.bound_just_at([], self.TEXT, swells, [RIGHT, LEFT])

    def test_no_swell(self):
        for held in itertools.product(range(8), repeat=2):
            for m in (-200, -1, 0, 1, 200):
                self.answers(0, m, self.TEXT, [0, 0], list(held))

    def test_one_that_swells_pushes_where_it_is_not_held(self):
        # The first is held at its left, so its right side moves; the second is held fast.
        self.bound_just_at(DAMP, self.TEXT, [100, 0], [LEFT, LEFT])
        self.bound_just_at([], self.TEXT, [100, 0], [RIGHT, LEFT])
        self.bound_just_at([], self.TEXT, [0, 100], [LEFT, LEFT])
        self.bound_just_at(DAMP, self.TEXT, [0, 100], [LEFT, RIGHT])

    def test_each_axis_and_each_bit_of_the_held_corner(self):
        for axis in range(3):
            corner = [10, 10, 10]
            corner[axis] = 12
            grain = "xyz"[(axis + 1) % 3]
            text = "part a 2 2 2 {}\nput a rb 10 10 10\nput a rb {} {} {}\n".format(grain, *corner)
            for held in itertools.product(range(8), repeat=2):
                moves = not held[0] & 1 << axis or held[1] & 1 << axis
                self.answers(int(bool(moves)), 1, text, [50, 50], list(held))
                self.answers(0, -1, text, [50, 50], list(held))

    def test_far_apart(self):
        text = "part a 2 2 2 z\nput a rb 0 0 0\nput a rb 48 48 48\n"
        self.bound_just_at([], text, [100, 100], [0, 7])
        text = "part a 16 16 16 z\nput a rb 0 0 0\nput a rb 23 0 0\n"
        # Both grow by 3.2 cells at the most, and are 7 apart.
        self.bound_just_at([], text, [100, 100], [LEFT, RIGHT])

    def test_near_on_two_axes_alone(self):
        for corner in ("40 8 8", "8 40 8", "8 8 40"):
            text = f"part a 16 16 16 z\nput a rb 8 8 8\nput a rb {corner}\n"
            self.bound_just_at([], text, [100, 100], [0, 7])


class Grain(BindsCase):
    def test_along_the_grain_none_binds(self):
        for axis in range(3):
            corner = [10, 10, 10]
            corner[axis] = 12
            text = "part a 2 2 2 {}\nput a rb 10 10 10\nput a rb {} {} {}\n".format("xyz"[axis], *corner)
            for held in ([0, 0], [0, 7], [7, 0], [7, 7]):
                self.bound_just_at([], text, [100, 100], held)

    def test_grains_that_differ(self):
        text = "part a 2 2 2 x\npart b 2 2 2 y\nput a rb 10 10 10\nput b rb 12 10 10\n"
        # Along x the first keeps its length, the second swells.
        self.bound_just_at([], text, [100, 100], [LEFT, LEFT])
        self.bound_just_at(DAMP, text, [100, 100], [LEFT, RIGHT])
        text = "part a 2 2 2 x\npart b 2 2 2 y\nput b rb 10 10 10\nput a rb 12 10 10\n"
        self.bound_just_at(DAMP, text, [100, 100], [LEFT, LEFT])
        self.bound_just_at([], text, [100, 100], [RIGHT, RIGHT])

    def test_the_grain_is_turned_with_the_part(self):
        for axis, along, text in turned_neighbours():
            self.answers(int(not along), 1, text, [1, 1], [0, 7])


class WhatIsFlat(BindsCase):
    def test_only_a_face(self):
        text = "part a 10 2 2 z\npart b 2 2 2 z\nput a rb 0 0 0\nput b rb 11 0 0\n"
        # At 100 the first's right side comes to 11 just where the second begins.
        self.answers(0, 99, text, [100, 0], [0, 0])
        self.answers(0, 100, text, [100, 0], [0, 0])
        self.answers(1, 101, text, [100, 0], [0, 0])

    def test_only_an_edge(self):
        at = "part a 10 10 2 z\npart b 2 2 2 z\nput a rb 0 0 0\n"
        self.answers(0, 100, at + "put b rb 11 11 0\n", [100, 0], [0, 0])
        self.answers(1, 101, at + "put b rb 11 11 0\n", [100, 0], [0, 0])
        # On x they've more in common than a plane, on y only a plane.
        self.answers(0, 100, at + "put b rb 10 11 0\n", [100, 0], [0, 0])
        self.answers(1, 101, at + "put b rb 10 11 0\n", [100, 0], [0, 0])

    def test_diagonal_beside_an_edge(self):
        at = "part a 2 2 2 {}\nput a rb 10 10 10\nput a rb 12 12 10\n"
        self.bound_just_at(DAMP, at.format("z"), [1, 1], [0, 0])
        # Along the grain it doesn't grow, so that they've a plane in common at the most.
        self.bound_just_at([], at.format("x"), [100, 100], [0, 7])
        self.bound_just_at([], at.format("y"), [100, 100], [0, 7])

    def test_only_a_corner(self):
        at = "part a 2 2 2 {}\npart b 2 2 2 {}\nput a rb 10 10 10\nput b rb 12 12 12\n"
        for grain in "xyz":
            self.bound_just_at([], at.format(grain, grain), [100, 100], [0, 7])
        # What the first doesn't grow along its grain, the second does.
        for one, other in itertools.permutations("xyz", 2):
            self.bound_just_at(DAMP, at.format(one, other), [1, 1], [0, 7])
            self.bound_just_at([], at.format(one, other), [1, 1], [0, 0])
            self.bound_just_at([], at.format(one, other), [100, 100], [7, 0])

    def test_swells_that_differ(self):
        # The first's right side lies at 10 + 10 f, the second's left at 22 - 1 f.
        text = "part a 10 1 1 z\npart b 1 1 1 z\nput a rb 10 0 0\nput b rb 21 0 0\n"
        for one, other in itertools.product((0, 1, 50, 100), repeat=2):
            for m in (-200, -1, 1, 95, 96, 100, 101, 199, 200):
                self.answers(int((10 * one + other) * m > 100000), m, text, [one, other], [LEFT, RIGHT])


class Cuts(BindsCase):
    def test_a_tenon_in_its_hole(self):
        text = "part m 4 4 4 z\ncut 1 1 0 2 2 4\npart t 2 2 6 z\nput m rb 10 10 10\nput t rb 11 11 9\n"
        # The tenon swells, the hole stays.
        self.bound_just_at(DAMP, text, [0, 1], [0, 0])
        self.bound_just_at(DAMP, text, [0, 100], [0, 7])
        # The hole moves away from where it is held, off the tenon's place.
        self.bound_just_at(DAMP + DRY, text, [1, 0], [0, 0])
        self.bound_just_at([], text, [0, 0], [0, 7])

    def test_a_tenon_with_room(self):
        text = "part m 12 4 4 z\ncut 1 0 0 10 4 4\npart t 9 4 4 z\nput m rb 10 10 10\nput t rb 11 10 10\n"
        # Between the tenon's right side, at 20, and the hole's, at 21, there's room until the tenon is 10 long.
        for m in (-200, -1, 0, 1, 111):
            self.answers(0, m, text, [0, 100], [0, 0])
        for m in (112, 200):
            self.answers(1, m, text, [0, 100], [0, 0])
        # The hole's right side comes to the tenon: 10 + 11 f is below 20.
        for m in (-1, -90):
            self.answers(0, m, text, [100, 0], [0, 0])
        for m in (-91, -200):
            self.answers(1, m, text, [100, 0], [0, 0])

    def test_one_in_the_hole_of_another_touching_nothing(self):
        text = "part m 9 9 9 z\ncut 1 1 1 7 7 7\npart t 1 1 1 z\nput m rb 10 10 10\nput t rb 14 14 14\n"
        for held in itertools.product((0, 7), repeat=2):
            self.bound_just_at([], text, [100, 100], list(held))
        touching = text.replace("14 14 14", "11 14 14")
        self.bound_just_at(DAMP, touching, [100, 0], [0, 0])
        self.bound_just_at(DAMP, touching, [0, 100], [0, 7])
        self.bound_just_at([], touching, [0, 100], [0, 0])

    def test_cells_cut_away_bind_nothing(self):
        text = "part a 2 2 2 z\ncut 1 0 0 1 2 2\nput a rb 10 10 10\nput a lb 12 10 10\n"
        # Turned by lb, the second's cut is at its left.
        self.bound_just_at([], text, [100, 100], [LEFT, RIGHT])
        nothing = "part n 2 2 2 z\ncut 0 0 0 2 2 2\npart a 2 2 2 z\nput n rb 10 10 10\nput a rb 10 10 10\nput n rb 9 9 9\n"
        for m in DAMPS:
            for i, j in ((0, 1), (0, 2), (1, 2)):
                self.answers(0, m, nothing, [100, 100, 50], [0, 7, 3], i, j)

    def test_a_cut_s_ends(self):
        # Only the first's cells at x 2 are left; the second's first cell stands beside them.
        part = "part a 4 1 1 z\ncut 0 0 0 2 1 1\ncut 3 0 0 1 1 1\npart b 1 1 1 z\nput a rb 10 0 0\n"
        self.bound_just_at(DAMP, part + "put b rb 13 0 0\n", [1, 0], [LEFT, LEFT])
        self.bound_just_at(DRY, part + "put b rb 11 0 0\n", [1, 0], [LEFT, LEFT])
        self.bound_just_at([], part + "put b rb 14 0 0\n", [1, 0], [LEFT, LEFT])
        self.bound_just_at([], part + "put b rb 10 0 0\n", [1, 0], [LEFT, LEFT])

    def test_come_free_again(self):
        # The first's one cell, from 25 to 26 at 0, goes through the second's, from 26 to 27.
        text = "part a 16 1 1 z\ncut 0 0 0 15 1 1\npart b 1 1 1 z\nput a rb 10 0 0\nput b rb 26 0 0\n"
        for m in (1, 2, 100, 133):
            self.answers(1, m, text, [100, 0], [LEFT, LEFT])
        for m in (-200, -1, 0, 134, 200):
            self.answers(0, m, text, [100, 0], [LEFT, LEFT])


class TurnedCuts(BindsCase):
    def test_each_cell_is_where_it_is_turned_to(self):
        part = crooked_part("a", "z") + "part c 1 1 1 x\n"
        shapes = set()
        for ways in WAYS:
            cells = turned_cells(ways)
            shapes.add(frozenset(cells))
            for x, y, z in itertools.product(range(5), repeat=3):
                if (x, y, z) in cells:
                    continue
                # The single cell's grain is along x: held at its far corner, it swells to the front and down.
                text = part + f"put a {ways} 10 10 10\nput c rb {10 + x} {10 + y} {10 + z}\n"
                near = {(x, y - b, z - c) for b, c in itertools.product((0, 1), repeat=2)}
                self.answers(int(bool(near & cells)), 1, text, [0, 1], [0, 7])
        self.assertEqual(len(shapes), 24)


class HeldInOnePlace(BindsCase):
    def test_eight_blocks_about_one_point(self):
        for grain in "xyz":
            text = f"part a 2 3 4 {grain}\n"
            held = []
            for side in itertools.product((0, 1), repeat=3):
                low = [20 - (2, 3, 4)[k] * (1 - side[k]) for k in range(3)]
                text += "put a rb {} {} {}\n".format(*low)
                held.append(sum(1 << k for k in range(3) if low[k] != 20))
            for m in (-200, -1, 0, 1, 200):
                for i, j in itertools.combinations(range(8), 2):
                    for swell in (1, 100):
                        self.answers(0, m, text, [swell] * 8, held, i, j)

    def test_within_one_another(self):
        # A block with an angle cut out of it and what fills the angle, both held at (10, 10, 10).
        text = "part m 8 8 8 z\ncut 0 0 0 5 5 8\npart t 5 5 8 z\nput m rb 10 10 10\nput t rb 10 10 10\n"
        for swell in (1, 37, 100):
            for m in range(-200, 201, 8):
                self.answers(0, m, text, [swell, swell], [0, 0])
        self.bound_just_at(DAMP, text, [1, 2], [0, 0])
        self.bound_just_at(DRY, text, [2, 1], [0, 0])

    def test_along_the_grain_the_place_is_no_matter(self):
        text = "part a 2 2 2 z\nput a rb 10 10 10\nput a rb 10 10 12\nput a lf 8 10 11\n"
        for m in DAMPS:
            for i, j in ((0, 1), (0, 2), (1, 2)):
                for ends in itertools.product((0, 4), repeat=3):
                    self.answers(0, m, text, [80, 80, 80], [ends[0], ends[1], ends[2] + 1], i, j)


class ManyPuts(BindsCase):
    def test_each_put_has_its_own_swell_and_held_corner(self):
        text = "part a 2 2 2 z\npart b 4 2 2 z\n" \
               "put a rb 0 0 0\nput a rb 2 0 0\nput b rb 4 0 0\nput a rb 20 0 0\nput a rb 22 0 0\n"
        swells, held = [0, 30, 0, 100, 0], [RIGHT, LEFT, LEFT, RIGHT, LEFT]
        bound = {(1, 2)}
        for i, j in itertools.combinations(range(5), 2):
            self.answers(int((i, j) in bound), 50, text, swells, held, i, j)
            self.answers(0, -50, text, swells, held, i, j)

    def test_at_the_grid_s_ends(self):
        text = "part a 16 16 16 z\nput a rb 0 0 0\nput a rb 16 0 0\nput a rb 48 48 48\nput a rb 32 48 48\n"
        self.answers(1, 1, text, [1, 1, 1, 1], [0, 0, 7, 7])
        self.answers(1, 200, text, [100] * 4, [0, 0, 7, 7], 2, 3)
        self.answers(0, 200, text, [100] * 4, [7, 0, 0, 7], 2, 3)


if __name__ == "__main__":
    unittest.main()

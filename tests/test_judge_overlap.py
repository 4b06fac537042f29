"""judge: which cells a put has, seen by where a single cell overlaps it."""

import itertools
import unittest

from tests.asking import WAYS, judged

STEPS = {"r": (1, 0, 0), "l": (-1, 0, 0), "b": (0, 1, 0), "f": (0, -1, 0), "u": (0, 0, 1), "d": (0, 0, -1)}
CUBE = "part c 1 1 1 x\n"


def turned(cells, lengths, ways, corner):
    """The cells, turned by their own vectors; the lowest corner of the turned block is then moved to the corner."""
    a = STEPS[ways[0]]
    b = STEPS[ways[1]]
    c = (a[1] * b[2] - a[2] * b[1], a[2] * b[0] - a[0] * b[2], a[0] * b[1] - a[1] * b[0])

    def spin(x, y, z):
        return tuple(x * a[k] + y * b[k] + z * c[k] for k in range(3))

    block = [spin(*cell) for cell in itertools.product(*(range(length) for length in lengths))]
    low = [min(cell[k] for cell in block) for k in range(3)]
    return {tuple(cell[k] - low[k] + corner[k] for k in range(3)) for cell in (spin(*one) for one in cells)}


def cells_seen(part, put, box):
    """The cells of the box of the grid that the put has: there a single cell overlaps it."""
    seen = set()
    for x, y, z in itertools.product(*box):
        answer = judged(CUBE + part + put + f"put c rb {x} {y} {z}\n")
        assert answer in ([0], [-9, 0, 1]), answer
        if answer != [0]:
            seen.add((x, y, z))
    return seen


class Pairs(unittest.TestCase):
    def answers(self, text, answer):
        with self.subTest(text=text):
            self.assertEqual(judged(text), answer)

    def test_one_cell_in_common_and_touching(self):
        part = "part a 2 3 4 x\n"
        at = "put a rb 10 10 10\n"
        for sides in itertools.product((-1, 0, 1), repeat=3):
            if sides == (0, 0, 0):
                continue
            nearest = [10 + sides[k] * ((2, 3, 4)[k] - 1) for k in range(3)]
            self.answers(part + at + "put a rb {} {} {}\n".format(*nearest), [-9, 0, 1])
            for k in range(3):
                if sides[k] != 0:
                    place = list(nearest)
                    place[k] += sides[k]
                    self.answers(part + at + "put a rb {} {} {}\n".format(*place), [0])

    def test_puts_of_one_part_in_one_place(self):
        self.answers(CUBE + "put c rb 0 0 0\nput c rb 0 0 0\n", [-9, 0, 1])
        self.answers(CUBE + "put c rb 48 48 48\nput c lf 48 48 48\n", [-9, 0, 1])
        self.answers(CUBE + "put c rb 0 0 0\nput c rb 0 0 1\nput c rb 0 1 0\nput c rb 1 0 0\n", [0])

    def test_at_the_grid_s_far_end(self):
        text = "part a 16 16 16 x\nput a rb 48 48 48\n"
        self.answers(text + "put a rb 32 48 48\nput a rb 48 32 48\nput a rb 48 48 32\n", [0])
        self.answers(text + "put a rb 33 33 33\n", [-9, 0, 1])

    def test_cells_cut_away_do_not_overlap(self):
        tray = "part t 3 3 2 x\ncut 1 1 1 1 1 1\n"
        self.answers(CUBE + tray + "put t rb 5 5 5\nput c rb 6 6 6\n", [0])
        self.answers(CUBE + tray + "put t rb 5 5 5\nput c rb 6 6 5\n", [-9, 0, 1])
        nothing = "part n 2 2 2 x\ncut 0 0 0 2 2 2\n"
        self.answers(nothing + "put n rb 0 0 0\nput n rb 0 0 0\n", [0])
        self.answers(CUBE + nothing + "put n rb 0 0 0\nput c rb 1 1 1\nput n rb 0 0 0\n", [0])

    def test_cuts_that_overlap_one_another(self):
        part = "part a 4 1 1 x\ncut 0 0 0 2 1 1\ncut 1 0 0 2 1 1\ncut 1 0 0 1 1 1\n"
        self.assertEqual(cells_seen(part, "put a rb 3 0 0\n", (range(9), range(2), range(2))), {(6, 0, 0)})

    def test_a_cut_is_of_its_own_part_alone(self):
        parts = "part a 2 1 1 x\ncut 0 0 0 1 1 1\npart b 2 1 1 x\ncut 1 0 0 1 1 1\n"
        self.answers(parts + "put a rb 0 0 0\nput b rb 0 0 0\n", [0])
        self.answers(parts + "put a rb 0 0 0\nput b rb 1 0 0\n", [-9, 0, 1])

    def test_the_first_pair_by_i_then_j(self):
        far = "put c rb 40 0 0\n"
        nested = "put c rb 1 0 0\nput c rb 2 0 0\nput c rb 2 0 0\nput c rb 1 0 0\n"
        self.answers(CUBE + far + nested, [-9, 1, 4])
        self.answers(CUBE + nested + "put c rb 1 0 0\n", [-9, 0, 3])
        self.answers(CUBE + "put c rb 1 0 0\nput c rb 2 0 0\nput c rb 3 0 0\nput c rb 3 0 0\n", [-9, 2, 3])
        long = "part l 3 1 1 x\n"
        self.answers(CUBE + long + "put l rb 0 0 0\nput c rb 9 0 0\nput c rb 2 0 0\nput c rb 0 0 0\n", [-9, 0, 2])
        many = "".join(f"put c rb {k} 0 0\n" for k in range(31))
        self.answers(CUBE + many + "put c rb 30 0 0\n", [-9, 30, 31])
        self.answers(CUBE + many + "put c rb 0 0 0\n", [-9, 0, 31])


class Turned(unittest.TestCase):
    LENGTHS = (2, 3, 4)

    def own_cells(self, cuts):
        cells = set(itertools.product(range(2), range(3), range(4)))
        for x, y, z, w, d, h in cuts:
            cells -= set(itertools.product(range(x, x + w), range(y, y + d), range(z, z + h)))
        return cells

    def test_all_24_ways(self):
        cuts = [(1, 0, 0, 1, 3, 3), (0, 1, 0, 1, 2, 1), (0, 2, 2, 2, 1, 2), (1, 1, 3, 1, 1, 1)]
        part = "part a 2 3 4 x\n" + "".join("cut {} {} {} {} {} {}\n".format(*cut) for cut in cuts)
        cells = self.own_cells(cuts)
        shapes = set()
        for ways in WAYS:
            with self.subTest(ways=ways):
                expected = turned(cells, self.LENGTHS, ways, (5, 7, 9))
                seen = cells_seen(part, f"put a {ways} 5 7 9\n", (range(4, 10), range(6, 12), range(8, 14)))
                self.assertEqual(seen, expected)
                shapes.add(frozenset(expected))
        # All 24 differ, so that no way can be taken for another.
        self.assertEqual(len(shapes), 24)
        # Nor is the part's mirror image among them: a part that lay mirrored would be seen.
        mirrored = {(x, y, 3 - z) for x, y, z in cells}
        for ways in WAYS:
            self.assertNotIn(frozenset(turned(mirrored, self.LENGTHS, ways, (5, 7, 9))), shapes)

    def test_the_document_s_own_example(self):
        # lb: x becomes w - 1 - x, up then points down: z becomes h - 1 - z.
        part = "part a 2 3 4 x\ncut 0 0 0 2 3 3\ncut 0 0 3 1 3 1\ncut 1 0 3 1 1 1\n"
        box = (range(4), range(4), range(5))
        self.assertEqual(cells_seen(part, "put a rb 0 0 0\n", box), {(1, 1, 3), (1, 2, 3)})
        self.assertEqual(cells_seen(part, "put a lb 0 0 0\n", box), {(0, 1, 0), (0, 2, 0)})

    def test_turned_parts_touch_and_overlap(self):
        part = "part a 1 2 5 x\n"
        self.assertEqual(judged(part + "put a ub 0 0 0\nput a rb 0 0 1\n"), [0])
        self.assertEqual(judged(part + "put a ub 0 0 0\nput a rb 4 1 0\n"), [-9, 0, 1])
        self.assertEqual(judged(part + "put a ub 0 0 0\nput a rb 5 1 0\n"), [0])


if __name__ == "__main__":
    unittest.main()

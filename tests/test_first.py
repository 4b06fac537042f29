"""first: at which dampness two puts are first bound, damp or dry."""

import itertools
import random
import unittest

from tests.asking import ask, to_bytes
from tests.works import close_work
from woodswell.swelling import binds, first

DAMP, DRY = 0, 1
LEFT, RIGHT = 0, 1
NONE = None


class FirstCase(unittest.TestCase):
    def answers(self, expected, dry, text, swells, held, i=0, j=1):
        answer = [-3] if expected is NONE else [0, expected]
        with self.subTest(dry=dry, text=text, swells=swells, held=held):
            self.assertEqual(ask(first, i, j, dry, to_bytes(text), swells, held), answer)
            self.assertEqual(ask(first, j, i, dry, to_bytes(text), swells, held), answer)

    def told(self, damp, dry, text, swells, held):
        self.answers(damp, DAMP, text, swells, held)
        self.answers(dry, DRY, text, swells, held)


class WhenDamp(FirstCase):
    def reach(self, length, gap):
        """A block that reaches to the right, and another as far from it."""
        return f"part a {length} 1 1 z\npart b 2 1 1 z\nput a rb 10 0 0\nput b rb {10 + length + gap} 0 0\n"

    def test_at_1_already(self):
        for swells in ([1, 0], [100, 0], [1, 1], [100, 100]):
            self.told(1, NONE, self.reach(2, 0), swells, [LEFT, LEFT])
        self.told(1, NONE, self.reach(2, 0), [0, 1], [LEFT, RIGHT])

    def test_between(self):
        # 10 cells that grow by a thousandth a step are a cell longer at 100: then they only touch.
        self.told(101, NONE, self.reach(10, 1), [100, 0], [LEFT, LEFT])
        self.told(126, NONE, self.reach(16, 1), [50, 0], [LEFT, LEFT])
        self.told(126, NONE, self.reach(16, 2), [100, 0], [LEFT, LEFT])
        # The other grows towards it: 10 + 2 cells.
        self.told(84, NONE, self.reach(10, 1), [100, 100], [LEFT, RIGHT])

    def test_at_200_alone(self):
        self.told(200, NONE, self.reach(11, 2), [91, 0], [LEFT, LEFT])
        self.told(200, NONE, self.reach(13, 2), [77, 0], [LEFT, LEFT])
        # These only touch at 200.
        self.told(NONE, NONE, self.reach(10, 2), [100, 0], [LEFT, LEFT])

    def test_at_none(self):
        self.told(NONE, NONE, self.reach(10, 1), [50, 0], [LEFT, LEFT])
        self.told(NONE, NONE, self.reach(2, 0), [0, 0], [LEFT, LEFT])
        self.told(NONE, NONE, self.reach(2, 0), [100, 100], [RIGHT, LEFT])
        self.told(NONE, NONE, self.reach(16, 4), [100, 0], [LEFT, LEFT])
        self.told(NONE, NONE, "part a 2 2 2 x\nput a rb 0 0 0\nput a rb 2 0 0\n", [100, 100], [LEFT, RIGHT])
        self.told(NONE, NONE, "part a 1 1 1 x\nput a rb 0 0 0\nput a rb 48 48 48\n", [100, 100], [0, 7])


class WhenDry(FirstCase):
    def hook(self, offset, gap):
        """A cell that draws to the left, and a block as far from it on that side, within the first's block."""
        return (f"part a {offset + 1} 1 1 z\ncut 0 0 0 {offset} 1 1\npart b 1 1 1 z\n"
                f"put a rb 10 0 0\nput b rb {10 + offset - gap - 1} 0 0\n")

    def test_at_minus_1_already(self):
        for swell in (1, 50, 100):
            self.told(NONE, -1, self.hook(3, 0), [swell, 0], [LEFT, LEFT])
            self.told(NONE, -1, self.hook(15, 0), [swell, swell], [LEFT, LEFT])

    def test_between(self):
        # At -100 a hook 10 cells away has come a cell nearer: then they only touch.
        self.told(NONE, -101, self.hook(10, 1), [100, 0], [LEFT, LEFT])
        self.told(NONE, -134, self.hook(15, 1), [50, 0], [LEFT, LEFT])
        self.told(NONE, -134, self.hook(15, 2), [100, 0], [LEFT, LEFT])
        # The other shrinks away from it: 10 - 1 cells.
        self.told(NONE, -112, self.hook(10, 1), [100, 100], [LEFT, LEFT])

    def test_at_minus_200_alone(self):
        self.told(NONE, -200, self.hook(11, 2), [91, 0], [LEFT, LEFT])
        self.told(NONE, -200, self.hook(13, 2), [77, 0], [LEFT, LEFT])

    def test_at_none(self):
        self.told(NONE, NONE, self.hook(10, 2), [100, 0], [LEFT, LEFT])
        self.told(NONE, NONE, self.hook(3, 0), [0, 0], [LEFT, LEFT])
        self.told(NONE, NONE, self.hook(11, 2), [90, 0], [LEFT, LEFT])

    def test_held_at_the_other_end(self):
        # Held at its right, the hook goes to the left only as it grows.
        self.told(1, NONE, self.hook(3, 0), [1, 0], [RIGHT, LEFT])


class BothWays(FirstCase):
    def test_a_plug_in_its_hole(self):
        # The hole's left side lies at 10 + 2 f, its right at 10 + 14 f; the plug stays.
        text = "part m 16 1 1 z\ncut 2 0 0 12 1 1\npart t {} 1 1 z\nput m rb 10 0 0\nput t rb {} 0 0\n"
        self.told(1, -1, text.format(12, 12), [100, 0], [LEFT, LEFT])
        self.told(1, -72, text.format(11, 12), [100, 0], [LEFT, LEFT])
        self.told(NONE, -1, text.format(11, 13), [100, 0], [LEFT, LEFT])
        self.told(NONE, -72, text.format(10, 13), [100, 0], [LEFT, LEFT])
        self.told(NONE, -143, text.format(9, 13), [100, 0], [LEFT, LEFT])
        self.told(NONE, NONE, text.format(8, 13), [100, 0], [LEFT, LEFT])

    def test_dry_is_not_damp(self):
        text = "part a 16 1 1 z\ncut 0 0 0 5 1 1\ncut 6 0 0 9 1 1\npart b 3 1 1 z\nput a rb 10 0 0\nput b rb 17 0 0\n"
        # The cell from 15 to 16 goes right when damp, the one from 25 to 26 left when dry; b lies from 17 to 20.
        self.told(167, NONE, text, [100, 0], [LEFT, LEFT])
        self.told(NONE, -67, text.replace("part b 3", "part b 6").replace("17 0 0", "18 0 0"), [100, 0], [LEFT, LEFT])


class ComingFreeAgain(FirstCase):
    def bound_at(self, dry, text, swells, held):
        way = -1 if dry else 1
        return [way * k for k in range(1, 201) if binds(0, 1, way * k, to_bytes(text), swells, held) == [1]]

    def test_when_damp(self):
        text = "part a 16 1 1 z\ncut 0 0 0 15 1 1\npart b 1 1 1 z\nput a rb 10 0 0\nput b rb {} 0 0\n"
        # The cell from 25 to 26 goes through b: it comes to it, and leaves it where its left side is beyond b's right.
        self.assertEqual(self.bound_at(DAMP, text.format(26), [100, 0], [LEFT, LEFT]), list(range(1, 134)))
        self.answers(1, DAMP, text.format(26), [100, 0], [LEFT, LEFT])
        self.assertEqual(self.bound_at(DAMP, text.format(27), [100, 0], [LEFT, LEFT]), list(range(63, 200)))
        self.answers(63, DAMP, text.format(27), [100, 0], [LEFT, LEFT])

    def test_when_dry(self):
        text = "part a 16 1 1 z\ncut 0 0 0 15 1 1\npart b 1 1 1 z\nput a rb 10 0 0\nput b rb {} 0 0\n"
        self.assertEqual(self.bound_at(DRY, text.format(24), [100, 0], [LEFT, LEFT]), list(range(-1, -125, -1)))
        self.answers(-1, DRY, text.format(24), [100, 0], [LEFT, LEFT])
        self.assertEqual(self.bound_at(DRY, text.format(23), [100, 0], [LEFT, LEFT]), list(range(-67, -188, -1)))
        self.answers(-67, DRY, text.format(23), [100, 0], [LEFT, LEFT])

    def test_bound_twice(self):
        # Two cells of the one, from 23 and from 25 on, go through b; between them there's room for it.
        text = "part a 16 1 1 z\ncut 0 0 0 13 1 1\ncut 14 0 0 1 1 1\npart b 1 1 1 z\nput a rb 10 0 0\nput b rb 26 0 0\n"
        bound = self.bound_at(DAMP, text, [100, 0], [LEFT, LEFT])
        self.assertEqual(bound, list(range(1, 134)) + list(range(143, 201)))
        self.answers(1, DAMP, text, [100, 0], [LEFT, LEFT])


    def test_bound_for_a_short_while(self):
        # On x the one comes to the other, a cell away, on y the other leaves it: each at 1 / (16 s) or 1 / (15 s).
        text = ("part a 16 1 1 y\ncut 0 0 0 15 1 1\npart b 1 16 1 x\ncut 0 0 0 1 15 1\n"
                "put a rb 10 20 0\nput b rb {} 5 0\n")
        lasting = set()
        for one in range(30, 101, 3):
            for other in list(range(20, 101, 4)) + [one, one + 5]:
                if other > 100:
                    continue
                for dry, place, comes, leaves in ((DAMP, 27, 16, 15), (DRY, 23, 15, 16)):
                    way = -1 if dry else 1
                    bound = [way * k for k in range(1, 201) if k * comes * one > 100000 > k * leaves * other]
                    lasting.add(len(bound))
                    self.answers(bound[0] if bound else NONE, dry, text.format(place), [one, other], [0, 0])
                    if len(bound) == 1:
                        self.assertEqual(self.bound_at(dry, text.format(place), [one, other], [0, 0]), bound)
        self.assertGreater(lasting, {0, 1, 2, 3, 4, 5, 10})


class AgainstBinds(FirstCase):
    def test_what_is_told_first_is_first(self):
        dice = random.Random(22)
        seen = {DAMP: [], DRY: []}
        for case in range(100):
            text, swells, held = close_work(dice)
            for dry, way in ((DAMP, 1), (DRY, -1)):
                bound = [way * k for k in range(1, 201) if binds(0, 1, way * k, text, swells, held) == [1]]
                with self.subTest(case=case, text=bytes(text), swells=swells, held=held, dry=dry):
                    answer = [0, bound[0]] if bound else [-3]
                    self.assertEqual(ask(first, 0, 1, dry, text, swells, held), answer)
                    self.assertEqual(ask(first, 1, 0, dry, text, swells, held), answer)
                seen[dry].append(bound[0] if bound else NONE)
        for dry, way in ((DAMP, 1), (DRY, -1)):
            self.assertGreater(seen[dry].count(NONE), 20)
            self.assertGreater(seen[dry].count(way), 10)
            self.assertGreater(len(set(seen[dry]) - {NONE, way}), 5)


class ManyPuts(FirstCase):
    def test_the_pair_that_is_asked_of(self):
        text = "part a 10 1 1 z\npart b 2 1 1 z\nput a rb 0 0 0\nput b rb 11 0 0\nput b rb 13 0 0\nput a rb 15 0 0\n"
        swells, held = [100, 50, 20, 0], [LEFT, RIGHT, LEFT, LEFT]
        # The first reaches to 10 f, the second to the left to 13 - 2 f; the second's right stays at 13.
        for pair, expected in (((0, 1), 91), ((0, 2), NONE), ((0, 3), NONE), ((1, 2), NONE), ((1, 3), NONE),
                               ((2, 3), 1)):
            self.answers(expected, DAMP, text, swells, held, *pair)
            self.answers(NONE, DRY, text, swells, held, *pair)

    def test_held_in_one_place_never(self):
        for grain in "xyz":
            text = f"part a 2 3 4 {grain}\n"
            for side in itertools.product((0, 1), repeat=3):
                text += "put a rb {} {} {}\n".format(*(20 - (2, 3, 4)[k] * (1 - side[k]) for k in range(3)))
            # The lower corners come first, and are held at their upper ends.
            held = [7, 3, 5, 1, 6, 2, 4, 0]
            for i, j in itertools.combinations(range(8), 2):
                for dry in (DAMP, DRY):
                    self.answers(NONE, dry, text, [100] * 8, held, i, j)


if __name__ == "__main__":
    unittest.main()

"""work: at which dampness any two puts of a work are first bound, and which two."""

import itertools
import random
import unittest

from tests.asking import ask, to_bytes
from tests.works import close_work, crowd_work, rooms_work
from woodswell.swelling import binds, first, work

DAMP, DRY = 0, 1
LEFT, RIGHT = 0, 1
NONE = None
MOST = 4294967295
PARTS = "".join(f"part a{length} {length} 1 1 z\npart h{length} {length} 1 1 z\ncut 0 0 0 {length - 1} 1 1\n"
                for length in (2, 10, 11, 12, 16))


def reaching(length, gap, row):
    """A block that reaches to the right when damp, and another as far from it; at the row along y."""
    return [(f"put a{length} rb 10 {row} 0", 1), (f"put a2 rb {10 + length + gap} {row} 0", 0)]


def drawing(length, gap, row):
    """A block's last cell, drawn to the left when dry, and another as far from it on that side."""
    return [(f"put h{length} rb 10 {row} 0", 1), (f"put a2 rb {10 + length - 1 - gap - 2} {row} 0", 0)]


class WorkCase(unittest.TestCase):
    def answers(self, expected, dry, text, swells, held):
        answer = [-3] if expected is NONE else [0, *expected]
        with self.subTest(dry=dry, text=text, swells=swells, held=held):
            self.assertEqual(ask(work, dry, to_bytes(text), swells, held), answer)

    def told(self, damp, dry, puts, swell=100, numbers=NONE):
        """What's told of these puts, all held at their left; those marked swell."""
        text = PARTS + "".join(line + "\n" for line, marked in puts)
        swells = numbers or [swell * marked for line, marked in puts]
        self.answers(damp, DAMP, text, swells, [LEFT] * len(puts))
        self.answers(dry, DRY, text, swells, [LEFT] * len(puts))


class OnePairBinds(WorkCase):
    def among_others(self, damp, dry, puts, swell=100):
        """The two alone, and with others that bind none behind, before and between them."""
        far = [("put a16 rb 0 40 40", 1), ("put a16 rb 30 44 44", 0), ("put a2 rb 48 48 48", 1)]
        for before, between, behind in ((0, 0, 0), (0, 0, 3), (3, 0, 0), (1, 1, 1), (0, 2, 1), (2, 1, 0)):
            others = iter(far)
            told = [next(others) for k in range(before)] + puts[:1]
            told += [next(others) for k in range(between)] + puts[1:]
            told += [next(others) for k in range(behind)]
            pair = (before, before + 1 + between)
            self.told(damp and (damp, *pair), dry and (dry, *pair), told, swell)

    def test_at_1_already(self):
        for swell in (1, 50, 100):
            self.among_others(1, NONE, reaching(2, 0, 0), swell)
            self.among_others(1, NONE, reaching(16, 0, 3), swell)

    def test_when_damp_between(self):
        # 10 cells are a cell longer at 100: then they only touch.
        self.among_others(101, NONE, reaching(10, 1, 0))
        self.among_others(126, NONE, reaching(16, 1, 0), 50)
        self.among_others(63, NONE, reaching(16, 1, 0))

    def test_at_200_alone(self):
        self.among_others(200, NONE, reaching(11, 2, 0), 91)
        self.among_others(NONE, NONE, reaching(10, 2, 0))

    def test_at_minus_1_already(self):
        for swell in (1, 50, 100):
            self.among_others(NONE, -1, drawing(10, 0, 0), swell)

    def test_when_dry_between(self):
        # The cell's left side lies 9, 10, 11 or 15 cells from where the block is held.
        self.among_others(NONE, -112, drawing(10, 1, 0))
        self.among_others(NONE, -101, drawing(11, 1, 0))
        self.among_others(NONE, -134, drawing(16, 1, 0), 50)
        self.among_others(NONE, -134, drawing(16, 2, 0))

    def test_at_minus_200_alone(self):
        self.among_others(NONE, -200, drawing(12, 2, 0), 91)
        self.among_others(NONE, NONE, drawing(12, 2, 0), 90)
        self.among_others(NONE, NONE, drawing(11, 2, 0))

    def test_at_none(self):
        self.among_others(NONE, NONE, reaching(2, 0, 0), 0)
        self.among_others(NONE, NONE, drawing(10, 0, 0), 0)
        self.among_others(NONE, NONE, reaching(10, 1, 0), 50)


class TheNearest(WorkCase):
    def test_whichever_pair_it_is(self):
        # Their first dampnesses are 63, 101, 126; each pair stands in a row of its own.
        pairs = {63: reaching(16, 1, 0), 101: reaching(10, 1, 2), 126: reaching(16, 2, 4)}
        for order in itertools.permutations(pairs):
            puts = [put for m in order for put in pairs[m]]
            place = 2 * order.index(63)
            self.told((63, place, place + 1), NONE, puts)
            for gone in order[:-1]:
                rest = [m for m in order if m != gone]
                place = 2 * rest.index(min(rest))
                self.told((min(rest), place, place + 1), NONE, [put for m in rest for put in pairs[m]])

    def test_when_dry(self):
        pairs = {-67: drawing(16, 1, 0), -112: drawing(10, 1, 2), -134: drawing(16, 2, 4)}
        for order in itertools.permutations(pairs):
            place = 2 * order.index(-67)
            self.told(NONE, (-67, place, place + 1), [put for m in order for put in pairs[m]])

    def test_damp_and_dry_have_each_their_own(self):
        puts = drawing(11, 1, 0) + reaching(16, 1, 2) + drawing(16, 1, 4) + reaching(10, 1, 6)
        self.told((63, 2, 3), (-67, 4, 5), puts)

    def test_one_nearer_by_one_alone(self):
        # 16 cells are 1 cell longer at 125 by a swell of 50; by one of 49 at 127, of 51 at 122.
        puts = reaching(16, 1, 0) + reaching(16, 1, 2) + reaching(16, 1, 4)
        self.told((123, 4, 5), NONE, puts, numbers=[49, 0, 50, 0, 51, 0])
        self.told((123, 0, 1), NONE, puts, numbers=[51, 0, 50, 0, 49, 0])
        self.told((126, 2, 3), NONE, puts, numbers=[49, 0, 50, 0, 0, 0])
        for one, other, expected in ((100, 99, (63, 0, 1)), (98, 100, (63, 2, 3)), (98, 99, (64, 0, 1))):
            self.told(expected, NONE, puts, numbers=[one, 0, other, 0, 0, 0])


class TheFirstPair(WorkCase):
    def test_by_i_then_by_j(self):
        # One reaches to the right; beside it, as far from it, three others.
        text = "part a 10 4 4 z\npart b 1 1 1 z\n"
        long, small = ["put a rb 10 0 0"], [f"put b rb 21 {k} {k}" for k in range(3)]
        for place in range(4):
            puts = small[:place] + long + small[place:]
            swells = [100 if put in long else 0 for put in puts]
            pair = (0, 1) if place == 0 else (0, place)
            self.answers((101, *pair), DAMP, text + "".join(put + "\n" for put in puts), swells, [LEFT] * 4)

    def test_pairs_of_their_own(self):
        reach = [reaching(10, 1, row) for row in (0, 2, 4)]
        orders = {
            (0, 1): [reach[0][0], reach[0][1], reach[1][0], reach[1][1], reach[2][0], reach[2][1]],
            (0, 3): [reach[0][0], reach[1][0], reach[1][1], reach[0][1], reach[2][0], reach[2][1]],
            (0, 5): [reach[0][0], reach[1][0], reach[2][0], reach[1][1], reach[2][1], reach[0][1]],
            (0, 4): [reach[2][1], reach[1][0], reach[1][1], reach[0][0], reach[2][0], reach[0][1]],
        }
        for pair, puts in orders.items():
            self.told((101, *pair), NONE, puts)

    def test_a_later_pair_of_an_earlier_put(self):
        # 0 and 3 bind at 101, as 1 and 2 do: i comes before j.
        one, other = reaching(10, 1, 0), reaching(10, 1, 2)
        self.told((101, 0, 3), NONE, [one[0], other[0], other[1], one[1]])
        self.told((101, 0, 3), NONE, [one[1], other[1], other[0], one[0]])
        # Nearer by one, the later pair is told.
        self.told((101, 1, 2), NONE, [one[0], other[0], other[1], one[1]], numbers=[99, 100, 0, 0])

    def test_at_1_and_at_minus_1(self):
        text = "part a 2 2 2 z\n" + "".join(f"put a rb {10 + 2 * k} 10 10\n" for k in (0, 2, 1, 3))
        # In the order of the places: 0 beside 2, 2 beside 1, 1 beside 3.
        self.answers((1, 0, 2), DAMP, text, [1] * 4, [LEFT] * 4)
        self.answers((1, 1, 2), DAMP, text, [0, 0, 1, 0], [LEFT] * 4)
        self.answers((1, 1, 3), DAMP, text, [0, 1, 0, 0], [LEFT] * 4)
        self.answers(NONE, DAMP, text, [0, 0, 0, 1], [LEFT] * 4)
        self.answers(NONE, DRY, text, [1] * 4, [LEFT] * 4)
        puts = drawing(10, 0, 0) + drawing(16, 0, 2)
        self.told(NONE, (-1, 0, 1), puts)
        self.told(NONE, (-1, 0, 1), [puts[2], puts[3], puts[0], puts[1]])
        self.told(NONE, (-1, 0, 3), [puts[0], puts[2], puts[3], puts[1]])

    def test_of_many(self):
        text = "part a 1 1 1 z\n" + "".join(f"put a rb {(k * 7) % 32} 0 0\n" for k in range(32))
        # Those beside one another are 9 or 23 puts apart, as 7 times 23 is 1 more than 5 times 32.
        self.answers((1, 0, 23), DAMP, text, [1] * 32, [LEFT] * 32)
        self.answers((1, 8, 31), DAMP, text, [0] * 8 + [1] + [0] * 23, [LEFT] * 32)
        self.answers((1, 22, 31), DAMP, text, [0] * 31 + [1], [LEFT] * 32)


class ComingFreeAgain(WorkCase):
    def test_told_all_the_same(self):
        text = "part a 16 1 1 z\ncut 0 0 0 15 1 1\npart b 1 1 1 z\nput a rb 10 0 0\nput b rb {} 0 0\n"
        for place, dry, expected, free in ((26, DAMP, 1, 134), (27, DAMP, 63, 200), (24, DRY, -1, -125),
                                           (23, DRY, -67, -188)):
            at = to_bytes(text.format(place))
            self.assertEqual(binds(0, 1, free, at, [100, 0], [LEFT, LEFT]), [0])
            self.assertEqual(binds(0, 1, expected, at, [100, 0], [LEFT, LEFT]), [1])
            self.answers((expected, 0, 1), dry, text.format(place), [100, 0], [LEFT, LEFT])

    def test_bound_at_one_dampness_alone(self):
        # At 66 the first has come to the second on x, at 67 the second has left it on y.
        text = ("part a 16 1 1 y\npart b 1 16 1 x\ncut 0 0 0 1 15 1\n"
                "put b rb 27 5 0\nput b rb 40 40 40\nput a rb 10 20 0\n")
        bound = [m for m in range(-200, 201) if binds(0, 2, m, to_bytes(text), [100, 0, 95], [0, 0, 0]) == [1]]
        self.assertEqual(bound, [66])
        self.answers((66, 0, 2), DAMP, text, [100, 0, 95], [0, 0, 0])
        self.answers(NONE, DAMP, text, [100, 0, 93], [0, 0, 0])

    def test_the_later_that_is_free_again_when_the_earlier_binds(self):
        # 2 and 3 bind from 1 to 133 alone, 0 and 1 from 163 on.
        text = PARTS + "part c 1 1 1 z\nput a16 rb 10 0 0\nput c rb 28 0 0\nput h16 rb 10 2 0\nput c rb 26 2 0\n"
        swells = [77, 0, 100, 0]
        self.assertEqual(first(0, 1, 0, to_bytes(text), swells, [LEFT] * 4), [0, 163])
        self.assertEqual(binds(2, 3, 163, to_bytes(text), swells, [LEFT] * 4), [0])
        self.answers((1, 2, 3), DAMP, text, swells, [LEFT] * 4)


class NoneBinds(WorkCase):
    def test_no_puts_and_one_put(self):
        for dry in (DAMP, DRY):
            for text in ("", "part a 1 1 1 x\n", "part a 16 16 16 x\ncut 0 0 0 1 1 1\npart b 2 2 2 z\n"):
                self.answers(NONE, dry, text, [], [])
            for grain in "xyz":
                for held in (0, 7):
                    self.answers(NONE, dry, f"part a 16 9 2 {grain}\nput a rb 3 4 5\n", [100], [held])

    def test_far_apart(self):
        text = "part a 2 2 2 z\nput a rb 0 0 0\nput a rb 48 48 48\nput a rb 0 48 0\nput a rb 24 0 48\n"
        for dry in (DAMP, DRY):
            for held in itertools.product((0, 7), repeat=4):
                self.answers(NONE, dry, text, [100] * 4, list(held))

    def test_cut_away_altogether(self):
        text = "part a 2 2 2 z\ncut 0 0 0 2 2 2\nput a rb 9 9 9\nput a rb 9 9 9\nput a rb 10 9 9\n"
        for dry in (DAMP, DRY):
            self.answers(NONE, dry, text, [100, 1, 50], [0, 7, 3])

    def test_held_in_one_place(self):
        for grain in "xyz":
            text = f"part a 2 3 4 {grain}\n"
            for side in itertools.product((0, 1), repeat=3):
                text += "put a rb {} {} {}\n".format(*(20 - (2, 3, 4)[k] * (1 - side[k]) for k in range(3)))
            for dry, swell in itertools.product((DAMP, DRY), (0, 1, 100)):
                self.answers(NONE, dry, text, [swell] * 8, [7, 3, 5, 1, 6, 2, 4, 0])


class WhatIsToldFirstIsFirst(WorkCase):
    def first_of_all(self, dry, text, swells, held):
        """The nearest to 0 of what first tells of each pair, and the first pair of which it tells that."""
        told = []
        for i, j in itertools.combinations(range(len(swells)), 2):
            answer = first(i, j, dry, text, swells, held)
            if answer != [-3]:
                told.append((abs(answer[1]), i, j))
        return [0, -min(told)[0] if dry else min(told)[0], *min(told)[1:]] if told else [-3]

    def test_against_first_of_every_pair(self):
        dice = random.Random(23)
        seen = {DAMP: [], DRY: []}
        for case in range(240):
            text, swells, held = dice.choice((rooms_work, rooms_work, crowd_work, close_work))(dice)
            for dry in (DAMP, DRY):
                answer = ask(work, dry, text, swells, held)
                with self.subTest(case=case, text=bytes(text), swells=swells, held=held, dry=dry):
                    self.assertEqual(answer, self.first_of_all(dry, text, swells, held))
                seen[dry].append(tuple(answer))
        for dry, way in ((DAMP, 1), (DRY, -1)):
            self.assertGreater(seen[dry].count((-3,)), 30)
            self.assertGreater(len([told for told in seen[dry] if told[1:2] == (way,)]), 10)
            self.assertGreater(len({told[1] for told in seen[dry] if len(told) > 1}), 20)
            self.assertGreater(len({told[2:] for told in seen[dry] if len(told) > 1}), 10)

    def test_against_binds_at_every_dampness(self):
        dice = random.Random(24)
        for case in range(8):
            swells = [0] * 32
            # Only few puts, as every pair is asked of 200 times.
            while len(swells) > 4:
                text, swells, held = (rooms_work, crowd_work)[case % 4 // 3](dice)
            pairs = list(itertools.combinations(range(len(swells)), 2))
            for dry, way in ((DAMP, 1), (DRY, -1)):
                told = ask(work, dry, text, swells, held)
                nearer = [way * far for far in range(1, 201 if told == [-3] else abs(told[1]))]
                with self.subTest(case=case, text=bytes(text), swells=swells, held=held, dry=dry):
                    for m, (i, j) in itertools.product(nearer, pairs):
                        self.assertEqual(binds(i, j, m, text, swells, held), [0], (m, i, j))
                    if told == [-3]:
                        continue
                    self.assertIn(tuple(told[2:]), pairs)
                    for i, j in pairs[:pairs.index(tuple(told[2:]))]:
                        self.assertEqual(binds(i, j, told[1], text, swells, held), [0], (i, j))
                    self.assertEqual(binds(told[2], told[3], told[1], text, swells, held), [1])


class Refusals(unittest.TestCase):
    CUBE = "part c 1 1 1 x\n"
    TWO = to_bytes(CUBE + "put c rb 0 0 0\nput c rb 0 1 0\n")
    NONE_BINDS = to_bytes(CUBE + "put c rb 0 0 0\nput c rb 9 1 0\n")
    OVERLAP = to_bytes(CUBE + "put c rb 0 0 0\nput c rb 5 0 0\nput c rb 5 0 0\nput c rb 0 0 0\n")
    LATER_OVERLAP = to_bytes(CUBE + "put c rb 0 0 0\nput c rb 5 0 0\nput c rb 5 0 0\n")
    FAULT = OVERLAP + to_bytes("put c rb 49 0 0\n")

    def answers(self, answer, dry, text, swells, held):
        with self.subTest(dry=dry, swells=swells, held=held):
            self.assertEqual(ask(work, dry, text, swells, held), answer)

    def test_dry(self):
        self.answers([0, 1, 0, 1], 0, self.TWO, [9, 9], [0, 0])
        self.answers([-3], 1, self.TWO, [9, 9], [0, 0])
        for dry in (2, 3, 255, 256, 65536, MOST - 1, MOST):
            self.answers([-1], dry, self.TWO, [9, 9], [0, 0])
            self.answers([-1], dry, self.NONE_BINDS, [9, 9], [0, 0])
            for text in ([], to_bytes(self.CUBE)):
                self.answers([-1], dry, text, [], [])

    def test_swells_and_held_corners(self):
        for dry in (0, 1, 2, MOST):
            for text in (self.TWO, self.NONE_BINDS):
                for swells, held in (([], []), ([0], [0, 0]), ([0, 0], [0]), ([0, 0, 0], [0, 0]), ([0, 0], [0, 0, 0]),
                                     ([0], [0]), ([0, 0, 0], [0, 0, 0]), ([101, 0], [0, 0]), ([0, 101], [0, 0]),
                                     ([0, MOST], [0, 0]), ([0, 0], [8, 0]), ([0, 0], [0, 8]), ([0, 0], [0, MOST])):
                    self.answers([-1], dry, text, swells, held)
            for swells, held in (([0], [0]), ([], [0]), ([0], [])):
                self.answers([-1], dry, [], swells, held)
        self.answers([0, 1, 0, 1], 0, self.TWO, [100, 100], [0, 7])

    def test_their_order(self):
        for dry in (0, 1, 2, MOST):
            self.answers([-2], dry, [10] * 65537, [], [])
            self.answers([-2], dry, self.FAULT, [0] * 33, [0])
            self.answers([-2], dry, self.OVERLAP, [0], [8] * 33)
            self.answers([-2], dry, self.TWO, [101] * 100, [0, 0])
            self.answers([-2], dry, [0] * 70000, [], [])
            self.answers([-6, 0, 1], dry, [10] * 65536, [101], [])
            self.answers([-6, 5, 1], dry, self.FAULT, [0] * 4, [0] * 4)
            self.answers([-6, 5, 1], dry, self.FAULT, [101], [8])
            self.answers([-6, 0, 3], dry, to_bytes("put c rb 0 0 0\n"), [0], [0])
            self.answers([-9, 0, 3], dry, self.OVERLAP, [0] * 4, [0] * 4)
            self.answers([-9, 0, 3], dry, self.OVERLAP, [101], [8])
            self.answers([-9, 1, 2], dry, self.LATER_OVERLAP, [0] * 3, [0] * 3)
            self.answers([-9, 1, 2], dry, self.LATER_OVERLAP, [0] * 32, [0] * 32)

    def test_32_numbers_each(self):
        many = to_bytes(self.CUBE + "".join(f"put c rb 0 {k} 0\n" for k in range(32)))
        self.answers([0, 1, 0, 1], 0, many, [1] * 32, [0] * 32)
        self.answers([-3], 1, many, [1] * 32, [0] * 32)
        self.answers([-1], 2, many, [1] * 32, [0] * 32)
        self.answers([-2], 0, many, [1] * 33, [0] * 32)
        self.answers([-2], 0, many, [1] * 32, [0] * 33)


if __name__ == "__main__":
    unittest.main()

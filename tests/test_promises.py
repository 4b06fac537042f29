"""What is promised over the whole program, on drawn works and by every call that it touches."""

import collections
import itertools
import random
import unittest

from tests import reference
from tests.asking import ask, to_bytes
from tests.works import close_work, crowd_work, one_place_work, rooms_work
from woodswell.swelling import binds, first, gap, judge, plane, work

UNIT = 100000
DAMPS = (-200, -199, -100, -1, 0, 1, 100, 199, 200)
BOTH_WAYS = ((0, 1), (1, -1))


def pairs_of(swells):
    return list(itertools.combinations(range(len(swells)), 2))


class PromisesCase(unittest.TestCase):
    def holds(self, seed, count, makers, check):
        """Checks as many works as told, drawn by each of the makers in turn."""
        dice = random.Random(seed)
        for case in range(count):
            text, swells, held = makers[case % len(makers)](dice)
            with self.subTest(case=case, text=bytes(text), swells=swells, held=held):
                self.assertEqual(ask(judge, text, swells, held), [0])
                check(dice, text, swells, held)


class TheFirst(PromisesCase):
    def test_at_0_all_lies_as_told(self):
        seen = collections.Counter()

        def check(dice, text, swells, held):
            for i, axis in itertools.product(range(len(swells)), range(3)):
                for t in (0, 64, dice.randint(1, 63)):
                    self.assertEqual(ask(plane, i, axis, t, 0, text, swells, held), [0, t * UNIT])
            for i, j in dice.sample(pairs_of(swells), min(len(pairs_of(swells)), 5)):
                # The puts overlap nowhere at 0, so that none binds, and cells beside one another touch.
                self.assertEqual(ask(binds, i, j, 0, text, swells, held), [0])
                for axis in range(3):
                    answer = ask(gap, i, j, axis, 0, text, swells, held)
                    self.assertIn(answer, ([0, 0], [-3]))
                    seen[answer[0]] += 1

        self.holds(31, 80, (close_work, crowd_work, rooms_work, one_place_work), check)
        self.assertGreater(min(seen[0], seen[-3]), 50, seen)

    def test_along_the_grain_nothing_moves(self):
        seen = collections.Counter()

        def check(dice, text, swells, held):
            grains = [put["grain"] for put in reference.read(text)]
            for i, m in itertools.product(range(len(swells)), (-200, 200, dice.randint(-199, 199))):
                for t in (0, 64, dice.randint(1, 63)):
                    self.assertEqual(ask(plane, i, grains[i], t, m, text, swells, held), [0, t * UNIT])
            for i, j in pairs_of(swells):
                if grains[i] == grains[j]:
                    answers = [ask(gap, i, j, grains[i], m, text, swells, held) for m in (-200, 1, 200)]
                    self.assertIn(answers, ([[0, 0]] * 3, [[-3]] * 3))
                    seen[answers[0][0]] += 1

        self.holds(32, 80, (close_work, crowd_work, crowd_work, one_place_work), check)
        self.assertGreater(min(seen[0], seen[-3]), 50, seen)

    def test_what_stands_in_a_row_along_its_grain_never_binds(self):
        def row(dice):
            axis = dice.randrange(3)
            parts, puts, corner = "", "", [20, 20, 20]
            corner[axis] = 0
            for k in range(4):
                sides = [dice.randint(1, 12) for own in range(3)]
                parts += "part p{} {} {} {} {}\n".format(k, *sides, "xyz"[axis])
                puts += "put p{} rb {} {} {}\n".format(k, *corner)
                corner[axis] += sides[axis]
            held = [dice.randrange(8) for put in range(4)]
            return to_bytes(parts + puts), [dice.choice((0, 1, 100)) for put in range(4)], held

        def check(dice, text, swells, held):
            axis = reference.read(text)[0]["grain"]
            for dry in (0, 1):
                self.assertEqual(ask(work, dry, text, swells, held), [-3])
            for i, j in pairs_of(swells):
                for m in DAMPS:
                    self.assertEqual(binds(i, j, m, text, swells, held), [0])
                    self.assertEqual(gap(i, j, axis, m, text, swells, held), [0, 0] if j == i + 1 else [-3])

        self.holds(33, 30, (row,), check)

    def test_planes_keep_their_order(self):
        def check(dice, text, swells, held):
            i, m = dice.randrange(len(swells)), dice.choice((-200, 200, dice.randint(-200, 200)))
            for axis in range(3):
                lie = [plane(i, axis, t, m, text, swells, held)[1] for t in range(65)]
                self.assertTrue(all(lie[t] < lie[t + 1] for t in range(64)), (i, m, axis))

        self.holds(34, 45, (close_work, crowd_work), check)


class TheSecond(PromisesCase):
    def told_by_work(self, found):
        """What work is to tell, as it's found first of the pairs."""
        if not found:
            return [-3]
        nearest = min(found.values(), key=abs)
        return [0, nearest, *min(pair for pair in found if found[pair] == nearest)]

    def test_what_is_told_first_is_first(self):
        seen = collections.Counter()

        def check_one_way(dice, dry, way, text, swells, held):
            told = {(i, j): ask(first, i, j, dry, text, swells, held) for i, j in pairs_of(swells)}
            found = {pair: answer[1] for pair, answer in told.items() if answer != [-3]}
            answer = ask(work, dry, text, swells, held)
            self.assertEqual(answer, self.told_by_work(found))
            seen[dry, (answer + [0])[1]] += 1
            for (i, j), m in found.items():
                self.assertEqual(binds(i, j, m, text, swells, held), [1])
            # Nearer to 0 none binds: one pair is asked of at every dampness, the others at some.
            always = dice.choice(sorted(found) or pairs_of(swells))
            for i, j in told:
                nearer = range(1, abs(found.get((i, j), 201)))
                if (i, j) != always:
                    nearer = dice.sample(nearer, min(len(nearer), 2))
                for far in nearer:
                    self.assertEqual(binds(i, j, way * far, text, swells, held), [0], (i, j, far))

        def check(dice, text, swells, held):
            for dry, way in BOTH_WAYS:
                check_one_way(dice, dry, way, text, swells, held)

        self.holds(35, 60, (close_work, rooms_work, crowd_work), check)
        for dry, way in BOTH_WAYS:
            self.assertGreater(seen[dry, 0], 5, seen)
            self.assertGreater(sum(seen[dry, way * far] for far in range(2, 201)), 5, seen)


class TheThird(PromisesCase):
    def test_held_in_one_place_they_never_bind(self):
        seen = collections.Counter()

        def check(dice, text, swells, held):
            for dry in (0, 1):
                self.assertEqual(ask(work, dry, text, swells, held), [-3])
            for i, j in pairs_of(swells):
                self.assertEqual(ask(first, i, j, dice.randrange(2), text, swells, held), [-3])
                for m in (-200, 200, dice.randint(-200, 200)):
                    self.assertEqual(ask(binds, i, j, m, text, swells, held), [0])
                    # They move as one.
                    axis, t = dice.randrange(3), dice.randint(0, 64)
                    self.assertEqual(*(ask(plane, k, axis, t, m, text, swells, held) for k in (i, j)))
                    answer = ask(gap, i, j, axis, m, text, swells, held)
                    self.assertIn(answer, ([0, 0], [-3]))
                    seen[answer[0]] += 1

        self.holds(36, 24, (one_place_work,), check)
        self.assertGreater(min(seen[0], seen[-3]), 100, seen)

    def test_held_or_swelling_otherwise_they_may(self):
        seen = collections.Counter()

        def check(dice, text, swells, held):
            k = dice.randrange(len(swells))
            alone = [100 if put == k else 0 for put in range(len(swells))]
            seen["swell", ask(work, 0, text, alone, held)[0]] += 1
            elsewhere = [7 - corner if put == k else corner for put, corner in enumerate(held)]
            seen["held", ask(work, 0, text, [100] * len(swells), elsewhere)[0]] += 1

        self.holds(36, 40, (one_place_work,), check)
        self.assertGreater(min(seen["swell", 0], seen["held", 0]), 10, seen)


if __name__ == "__main__":
    unittest.main()

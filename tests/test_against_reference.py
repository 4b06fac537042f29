"""The calls against the reference, on many works that are made the same at every run."""

import collections
import random
import unittest

from tests import reference
from tests.asking import ask
from tests.works import close_work, crowd_work, some_text, told
from woodswell.swelling import binds, first, gap, judge, plane, work


class AgainstReference(unittest.TestCase):
    def test_many_works(self):
        dice = random.Random(20)
        seen = collections.Counter()
        for case in range(1500):
            text, puts = some_text(dice)
            swells = told(dice, puts, 100)
            held = told(dice, puts, 7)
            with self.subTest(case=case, text=bytes(text), swells=swells, held=held):
                answer = ask(judge, text, swells, held)
                self.assertEqual(answer, reference.judge(text, swells, held))
                seen[answer[0]] += 1
                own = (dice.randint(0, puts), dice.randint(0, 3) % 3 + dice.randint(0, 20) // 20,
                       dice.choice((0, 64, 65, dice.randint(0, 64))), dice.choice((-201, 200, dice.randint(-200, 200))))
                answer = ask(plane, *own, text, swells, held)
                self.assertEqual(answer, reference.plane(*own, text, swells, held), own)
                seen["plane", answer[0]] += 1
                own = (dice.randint(0, puts), dice.randint(0, puts), dice.choice((-201, 200, dice.randint(-200, 200))))
                answer = ask(binds, *own, text, swells, held)
                self.assertEqual(answer, reference.binds(*own, text, swells, held), own)
                seen["binds", answer[0]] += 1
                own = own[:2] + (dice.choice((0, 1, 2)),)
                answer = ask(first, *own, text, swells, held)
                refused, two = reference.pair(*own[:2], text, swells, held, own[2] < 2)
                if refused:
                    self.assertEqual(answer, refused, own)
                else:
                    self.assertIn(answer[0], (0, -3), own)
                answer = ask(work, own[2], text, swells, held)
                refused = reference.judge(text, swells, held, own[2] < 2)
                if refused != [0]:
                    self.assertEqual(answer, refused, own[2])
                else:
                    self.assertIn(answer[0], (0, -3), own[2])
                seen["work", answer[0]] += 1
                own = (dice.randint(0, puts), dice.randint(0, puts), dice.choice((0, 1, 2, 0, 1, 2, 3)),
                       dice.choice((200, dice.randint(-200, 200), dice.randint(-200, 201))))
                answer = ask(gap, *own, text, swells, held)
                self.assertEqual(answer, reference.gap(*own, text, swells, held), own)
                seen["gap", answer[0]] += 1
        # The works are such that each answer is often seen.
        for answer in (0, -6, -9, -1, ("plane", 0), ("plane", -4), ("binds", 0), ("binds", -4), ("binds", -8),
                       ("work", -3), ("work", -6), ("work", -9), ("work", -1),
                       ("gap", -6), ("gap", -9), ("gap", -1), ("gap", -4), ("gap", -8), ("gap", -3)):
            self.assertGreater(seen[answer], 50, seen)

    def test_close_puts(self):
        dice = random.Random(21)
        seen = collections.Counter()
        for case in range(350):
            text, swells, held = close_work(dice)
            i, j = dice.sample(range(len(swells)), 2)
            with self.subTest(case=case, text=bytes(text), swells=swells, held=held):
                self.assertEqual(ask(binds, i, j, 0, text, swells, held), [0])
                for m in (-200, -1, 1, 200, dice.randint(-200, 200)):
                    answer = ask(binds, i, j, m, text, swells, held)
                    self.assertEqual(answer, reference.binds(i, j, m, text, swells, held), m)
                    self.assertEqual(answer, ask(binds, j, i, m, text, swells, held), m)
                    seen[m, answer[0]] += 1
                if case % 10 == 0:
                    for dry in (0, 1):
                        answer = ask(first, i, j, dry, text, swells, held)
                        self.assertEqual(answer, reference.first(i, j, dry, text, swells, held), dry)
        for m in (-200, -1, 1, 200):
            for answer in (0, 1):
                self.assertGreater(seen[m, answer], 50, seen)

    def test_gap_of_close_puts_and_crowds(self):
        dice = random.Random(27)
        seen = collections.Counter()
        for case in range(400):
            text, swells, held = (close_work, crowd_work)[case % 2](dice)
            for asked in range(6):
                i, j = dice.sample(range(len(swells)), 2)
                own = (i, j, asked % 3, dice.choice((-200, -1, 0, 1, 200, dice.randint(-200, 200))))
                with self.subTest(case=case, text=bytes(text), swells=swells, held=held, own=own):
                    answer = ask(gap, *own, text, swells, held)
                    self.assertEqual(answer, reference.gap(*own, text, swells, held))
                    seen[answer[0], len(answer) > 1 and (answer[1] > 0) - (answer[1] < 0)] += 1
        for kind in ((0, -1), (0, 0), (0, 1), (-3, False)):
            self.assertGreater(seen[kind], 30, seen)

    def test_work_of_close_puts_and_crowds(self):
        dice = random.Random(25)
        for case in range(20):
            text, swells, held = (close_work, crowd_work)[case % 2](dice)
            for dry in (0, 1):
                with self.subTest(case=case, text=bytes(text), swells=swells, held=held, dry=dry):
                    answer = ask(work, dry, text, swells, held)
                    self.assertEqual(answer, reference.work(dry, text, swells, held))


if __name__ == "__main__":
    unittest.main()

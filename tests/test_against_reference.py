"""judge and plane against the reference, on many works that are made the same at every run."""

import collections
import random
import unittest

from tests import reference
from tests.asking import WAYS, ask, to_bytes
from woodswell.swelling import judge, plane

ODD_NUMBERS = ["0", "1", "16", "17", "48", "49", "00", "01", "", "x", "99999999999999999999", "-1"]


def some_part(dice, name):
    lengths = [dice.choice((1, 2, 3, 5, dice.randint(1, 16))) for own in range(3)]
    lines = ["part {} {} {} {} {}".format(name, *lengths, dice.choice("xyz"))]
    for cut in range(dice.choice((0, 0, 1, 2, 5))):
        start = [dice.randrange(length) for length in lengths]
        sides = [dice.randint(1, lengths[own] - start[own]) for own in range(3)]
        lines.append("cut {} {} {} {} {} {}".format(*start, *sides))
    return lines


def some_work(dice):
    names = [f"p{k}" for k in range(dice.randint(1, 4))]
    lines = [line for name in names for line in some_part(dice, name)]
    reach = dice.choice((4, 12, 48))
    for put in range(dice.randint(0, 5)):
        corner = [dice.randint(0, reach) for axis in range(3)]
        lines.append("put {} {} {} {} {}".format(dice.choice(names), dice.choice(WAYS), *corner))
    return lines


def spoilt(dice, lines):
    lines = list(lines)
    k = dice.randrange(len(lines))
    harm = dice.randrange(5)
    if harm == 0:
        words = lines[k].split(" ")
        words[dice.randrange(len(words))] = dice.choice(ODD_NUMBERS)
        lines[k] = " ".join(words)
    elif harm == 1:
        lines.insert(dice.randrange(len(lines) + 1), lines[k])
    elif harm == 2:
        lines.pop(k)
    elif harm == 3:
        dice.shuffle(lines)
    else:
        lines[k] = lines[k].replace(" ", dice.choice(("", "  ", "\t", " 1 ")), 1)
    return lines


def some_text(dice):
    lines = some_work(dice)
    if dice.random() < 0.3:
        lines = spoilt(dice, lines)
    text = to_bytes("".join(line + "\n" for line in lines))
    if dice.random() < 0.03:
        text = text[:dice.randrange(len(text) + 1)]
    if dice.random() < 0.03 and text:
        text[dice.randrange(len(text))] = dice.randrange(256)
    return text, sum(1 for line in lines if line.startswith("put "))


def told(dice, count, most):
    numbers = [dice.randint(0, most) for put in range(count)]
    if dice.random() < 0.05:
        numbers.append(0)
    if dice.random() < 0.05 and numbers:
        numbers[dice.randrange(len(numbers))] = dice.choice((most, most + 1, 4294967295))
    return numbers


class AgainstReference(unittest.TestCase):
    def test_many_works(self):
        dice = random.Random(20)
        seen = collections.Counter()
        for case in range(1500):
            text, puts = some_text(dice)
            swells = told(dice, puts, 100)
            held = told(dice, puts, 7)
            with self.subTest(case=case, text=bytes(text), swells=swells, held=held):
                answer = ask(judge, text, swells, held)
                self.assertEqual(answer, reference.judge(text, swells, held))
                seen[answer[0]] += 1
                own = (dice.randint(0, puts), dice.randint(0, 3) % 3 + dice.randint(0, 20) // 20,
                       dice.choice((0, 64, 65, dice.randint(0, 64))), dice.choice((-201, 200, dice.randint(-200, 200))))
                answer = ask(plane, *own, text, swells, held)
                self.assertEqual(answer, reference.plane(*own, text, swells, held), own)
                seen["plane", answer[0]] += 1
        # The works are such that each answer is often seen.
        for answer in (0, -6, -9, -1, ("plane", 0), ("plane", -4)):
            self.assertGreater(seen[answer], 50, seen)


if __name__ == "__main__":
    unittest.main()

"""Large works are answered within a few seconds."""

import time
import unittest

from tests.asking import to_bytes
from woodswell.swelling import binds, first, gap, work

FEW_SECONDS = 4


def combed(name, count, most):
    """A block's text with as many cuts as may be; every second layer is left of it."""
    cuts = [f"cut 0 0 {layer} 16 16 1\n" for layer in range(count, 16, 2)]
    more = [f"cut {k % 16} {k // 16} {count} 1 1 1\n" for k in range(most - len(cuts))]
    return f"part {name} 16 16 16 z\n" + "".join(cuts + more)


def many_combs():
    """32 puts of large blocks with many cuts, two and two within one another."""
    parts = "".join(combed(f"a{k}", 0, 64) + combed(f"b{k}", 1, 64) for k in range(16))
    puts = ""
    for k in range(16):
        corner = f"{k % 4 * 16} {k // 4 * 16} {k % 3 * 16}"
        puts += f"put a{k} rb {corner}\nput b{k} rb {corner}\n"
    return to_bytes(parts + puts)


def many_posts(gap):
    """32 puts, all of one large block of which a post is left, as far from one another as told."""
    parts = puts = ""
    for k in range(32):
        x, y = k % 6 * gap, k // 6 * gap
        sides = [f"cut 0 0 0 {x} 16 16\n" if x else "", f"cut {x + 1} 0 0 {15 - x} 16 16\n" if x < 15 else "",
                 f"cut 0 0 0 16 {y} 16\n" if y else "", f"cut 0 {y + 1} 0 16 {15 - y} 16\n" if y < 15 else ""]
        more = [f"cut {x} {y} {z} 1 1 1\n" for z in range(1, 16, 3) for again in range(12)]
        parts += f"part p{k} 16 16 16 {'xyz'[k % 3]}\n" + "".join(sides + more)
        puts += f"put p{k} rb 20 20 20\n"
    return to_bytes(parts + puts)


def many_blocks():
    puts = "".join(f"put a rb {k % 4 * 16} {k // 4 % 4 * 16} {k // 16 * 16}\n" for k in range(32))
    return to_bytes("part a 16 16 16 z\n" + puts)


class Large(unittest.TestCase):
    def answers(self, answer, function, *arguments):
        before = time.process_time()
        told = function(*arguments)
        self.assertLess(time.process_time() - before, FEW_SECONDS)
        self.assertEqual(told, answer)

    def test_binds(self):
        combs = many_combs()
        self.assertGreater(len(combs), 30000)
        for m in (-200, 1, 200):
            # All swell alike from one corner along x and y, and along z not at all.
            self.answers([0], binds, 0, 1, m, combs, [100] * 32, [0] * 32)
            self.answers([0], binds, 30, 31, m, combs, [100] * 32, [0] * 32)
        blocks = many_blocks()
        self.answers([1], binds, 0, 1, 200, blocks, [100] * 32, [0] * 32)
        self.answers([0], binds, 0, 31, 200, blocks, [100] * 32, [0] * 32)

    def test_first(self):
        combs = many_combs()
        for dry in (0, 1):
            self.answers([-3], first, 0, 1, dry, combs, [100] * 32, [0] * 32)
            self.answers([-3], first, 31, 30, dry, combs, [100] * 32, [7] * 32)
        blocks = many_blocks()
        self.answers([0, 1], first, 0, 1, 0, blocks, [100] * 32, [0] * 32)
        self.answers([-3], first, 0, 1, 1, blocks, [100] * 32, [0] * 32)
        self.answers([-3], first, 0, 31, 0, blocks, [100] * 32, [0] * 32)

    def test_work(self):
        combs, blocks, posts = many_combs(), many_blocks(), many_posts(3)
        for dry in (0, 1):
            # None is found: all keep still.
            for text in (combs, blocks, posts):
                self.answers([-3], work, dry, text, [0] * 32, [0] * 32)
            self.answers([-3], work, dry, posts, [1 + k % 3 for k in range(32)], [k % 8 for k in range(32)])
        self.answers([-3], work, 1, combs, [100] * 32, [0] * 32)
        self.answers([0, 1, 2, 8], work, 0, combs, [100] * 32, [0] * 32)
        self.answers([0, 1, 0, 1], work, 0, blocks, [100] * 32, [0] * 32)
        self.answers([0, 1, 26, 31], work, 0, blocks, [0] * 31 + [100], [7] * 32)
        # Late ones are found as soon.
        self.answers([0, 143, 0, 6], work, 0, posts, [100] * 32, [k % 8 for k in range(32)])
        self.answers([0, -112, 2, 8], work, 1, posts, [100] * 32, [k % 8 for k in range(32)])

    def test_gap(self):
        combs, blocks, posts = many_combs(), many_blocks(), many_posts(1)
        for m in (-200, 0, 200):
            # Layer lies upon layer, and along the grain nothing moves.
            for i, j in ((0, 1), (31, 30)):
                self.answers([0, 0], gap, i, j, 2, m, combs, [100] * 32, [0, 7] * 16)
            # The first comes to the second by 16 cells' growth.
            self.answers([0, -1600 * m], gap, 0, 1, 0, m, blocks, [100] * 32, [0] * 32)
            self.answers([-3], gap, 0, 31, 0, m, blocks, [100] * 32, [0] * 32)
            # Of two posts beside one another the first has its grain along x, the second goes from 20 on.
            self.answers([0, 0], gap, 0, 1, 0, m, posts, [0] * 32, [0] * 32)
            self.answers([-3], gap, 0, 7, 0, m, posts, [100] * 32, [0] * 32)
            self.answers([0, 100 * m], gap, 0, 1, 0, m, posts, [100] * 32, [0] * 32)


if __name__ == "__main__":
    unittest.main()

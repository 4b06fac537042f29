"""judge: -2, -1, and the order of the refusals."""

import unittest

from tests.asking import ask, to_bytes
from woodswell.swelling import judge

CUBE = "part c 1 1 1 x\n"
TWO = to_bytes(CUBE + "put c rb 0 0 0\nput c rb 1 0 0\n")
OVERLAP = to_bytes(CUBE + "put c rb 0 0 0\nput c rb 0 0 0\n")
FAULT = to_bytes(CUBE + "put c rb 0 0 0\nput c rb 0 0 0\nput d rb 0 0 0\n")
MOST = 4294967295


def puts(count):
    return to_bytes(CUBE + "".join(f"put c rb {k} 0 0\n" for k in range(count)))


class Refusals(unittest.TestCase):
    def answers(self, answer, text, swells, held):
        with self.subTest(size=len(text), swells=swells, held=held):
            self.assertEqual(ask(judge, text, swells, held), answer)

    def test_the_text_s_length(self):
        start = to_bytes(CUBE)
        for fill in (10, 32, 97, 0, 255):
            self.answers([-6, 1, 1], start + [fill] * (65536 - len(start)), [], [])
            self.answers([-2], start + [fill] * (65537 - len(start)), [], [])
            self.answers([-2], [fill] * 70000, [], [])
        self.answers([-6, 0, 1], [10] * 65536, [], [])

    def test_the_lists_lengths(self):
        self.answers([0], puts(32), [1] * 32, [1] * 32)
        self.answers([-2], puts(32), [1] * 33, [1] * 32)
        self.answers([-2], puts(32), [1] * 32, [1] * 33)
        self.answers([-2], [], [1] * 100, [])
        self.answers([-2], [], [], [1] * 100)
        self.answers([-1], [], [1] * 32, [1] * 32)

    def test_as_many_as_puts(self):
        self.answers([0], TWO, [0, 0], [0, 0])
        for swells, held in (([], []), ([0], [0, 0]), ([0, 0], [0]), ([0, 0, 0], [0, 0]), ([0, 0], [0, 0, 0]),
                             ([0], [0]), ([0, 0, 0], [0, 0, 0]), ([0, 0, 0], [0]), ([0], [0, 0, 0])):
            self.answers([-1], TWO, swells, held)
        for text in ([], to_bytes(CUBE)):
            self.answers([0], text, [], [])
            self.answers([-1], text, [0], [])
            self.answers([-1], text, [], [0])
            self.answers([-1], text, [0], [0])

    def test_the_count_is_of_puts_not_of_parts(self):
        text = to_bytes(CUBE + "part d 1 1 1 x\nput d rb 0 0 0\n")
        self.answers([0], text, [5], [5])
        self.answers([-1], text, [5, 5], [5, 5])

    def test_the_bounds_of_swells(self):
        for swell in (0, 1, 99, 100):
            self.answers([0], TWO, [swell, 0], [0, 0])
            self.answers([0], TWO, [0, swell], [0, 0])
        for swell in (101, 102, 65536, MOST):
            self.answers([-1], TWO, [swell, 0], [0, 0])
            self.answers([-1], TWO, [0, swell], [0, 0])

    def test_the_bounds_of_held_corners(self):
        for corner in range(8):
            self.answers([0], TWO, [0, 0], [corner, 0])
            self.answers([0], TWO, [0, 0], [0, corner])
        for corner in (8, 9, 100, MOST):
            self.answers([-1], TWO, [0, 0], [corner, 0])
            self.answers([-1], TWO, [0, 0], [0, corner])

    def test_their_order(self):
        long = [10] * 65537
        self.answers([-2], long, [101] * 33, [8])
        self.answers([-2], FAULT, [0] * 33, [0])
        self.answers([-2], FAULT, [0], [0] * 33)
        self.answers([-2], OVERLAP, [0] * 33, [0])
        self.answers([-2], OVERLAP, [0], [8] * 33)
        self.answers([-2], TWO, [101] * 33, [8])
        # The fault's text also has two puts that overlap above the fault.
        self.answers([-6, 3, 4], FAULT, [0, 0], [0, 0])
        self.answers([-6, 3, 4], FAULT, [101], [8, 8, 8])
        self.answers([-9, 0, 1], OVERLAP, [0, 0], [0, 0])
        self.answers([-9, 0, 1], OVERLAP, [], [0] * 32)
        self.answers([-9, 0, 1], OVERLAP, [101, 0], [8, MOST])


if __name__ == "__main__":
    unittest.main()

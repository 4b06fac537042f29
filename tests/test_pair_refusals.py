"""What the calls of two puts refuse, and in which order."""

import unittest

from tests.asking import ask, to_bytes
from woodswell.swelling import binds, first, gap

MOST = 4294967295
CUBE = "part c 1 1 1 x\n"
TWO = to_bytes(CUBE + "put c rb 0 0 0\nput c rb 1 0 0\n")
THREE = to_bytes(CUBE + "put c rb 0 0 0\nput c rb 0 1 0\nput c rb 0 0 9\n")
OVERLAP = to_bytes(CUBE + "put c rb 0 0 0\nput c rb 5 0 0\nput c rb 5 0 0\n")
FAULT = OVERLAP + to_bytes("put c rb 49 0 0\n")

RIGHT_DAMPS = (-200, -1, 0, 1, 200)
WRONG_DAMPS = (-201, 201, -202, 65536, -2147483648, 2147483647)

# Of each call: what its own numbers may be and what they may not be.
CALLS = (
    (binds, [(m,) for m in RIGHT_DAMPS], [(m,) for m in WRONG_DAMPS]),
    (first, [(0,), (1,)], [(2,), (3,), (65536,), (MOST,)]),
    (gap, [(k % 3, m) for k, m in enumerate(RIGHT_DAMPS)],
     [(k % 3, m) for k, m in enumerate(WRONG_DAMPS)]
     + [(3, 0), (4, 200), (65536, 0), (MOST, 0), (3, 201), (MOST, -201)]),
)
NO_PAIRS = ((2, 0), (0, 2), (2, 2), (1, 3), (MOST, 0), (0, MOST), (MOST, MOST), (MOST, MOST - 1))


class PairRefusals(unittest.TestCase):
    def answers(self, answer, function, i, j, own, text, swells, held):
        with self.subTest(function=function, i=i, j=j, own=own, swells=swells, held=held):
            self.assertEqual(ask(function, i, j, *own, text, swells, held), answer)

    def is_answered(self, function, i, j, own, text, swells, held):
        with self.subTest(function=function, i=i, j=j, own=own, swells=swells, held=held):
            self.assertIn(ask(function, i, j, *own, text, swells, held)[0], (0, 1, -3))

    def test_no_such_put(self):
        for function, right, wrong in CALLS:
            for own in right:
                self.is_answered(function, 0, 1, own, TWO, [9, 9], [0, 0])
                for i, j in NO_PAIRS:
                    self.answers([-4], function, i, j, own, TWO, [9, 9], [0, 0])
                for text in ([], to_bytes(CUBE)):
                    for i, j in ((0, 0), (0, 1), (1, 0), (1, 1), (MOST, MOST), (0, MOST)):
                        self.answers([-4], function, i, j, own, text, [], [])

    def test_the_last_put_s_number(self):
        many = to_bytes(CUBE + "".join(f"put c rb 0 {k} 0\n" for k in range(32)))
        for function, right, wrong in CALLS:
            for own in right:
                self.is_answered(function, 31, 0, own, many, [9] * 32, [0] * 32)
                self.is_answered(function, 30, 31, own, many, [9] * 32, [0] * 32)
                self.answers([-8], function, 31, 31, own, many, [9] * 32, [0] * 32)
                self.answers([-4], function, 32, 31, own, many, [9] * 32, [0] * 32)
                self.answers([-4], function, 31, 32, own, many, [9] * 32, [0] * 32)

    def test_alike(self):
        for function, right, wrong in CALLS:
            for own in right:
                # The third is bound to none, the first two are bound to one another when damp.
                for i in range(3):
                    self.answers([-8], function, i, i, own, THREE, [9, 9, 9], [0, 0, 0])
                # -4 comes before -8.
                self.answers([-4], function, 3, 3, own, THREE, [9, 9, 9], [0, 0, 0])

    def test_the_call_s_own_number(self):
        for function, right, wrong in CALLS:
            for own in right:
                self.is_answered(function, 0, 1, own, TWO, [100, 100], [7, 7])
            for own in wrong:
                self.answers([-1], function, 0, 1, own, TWO, [100, 100], [7, 7])
                self.answers([-1], function, 0, 1, own, TWO, [0, 0], [0, 0])

    def test_swells_and_held_corners(self):
        for function, right, wrong in CALLS:
            for own in right:
                for swells, held in (([], []), ([0], [0, 0]), ([0, 0], [0]), ([0, 0, 0], [0, 0]), ([0, 0], [0, 0, 0]),
                                     ([0], [0]), ([0, 0, 0], [0, 0, 0]), ([101, 0], [0, 0]), ([0, MOST], [0, 0]),
                                     ([0, 0], [8, 0]), ([0, 0], [0, MOST])):
                    self.answers([-1], function, 0, 1, own, TWO, swells, held)
                # What's told of another put is judged too.
                self.answers([-1], function, 0, 1, own, THREE, [0, 0, 101], [0, 0, 0])
                self.answers([-1], function, 0, 1, own, THREE, [0, 0, 0], [0, 0, 8])

    def test_their_order(self):
        for function, right, wrong in CALLS:
            for own in right + wrong:
                for i, j in ((0, 1), (0, 0)) + NO_PAIRS:
                    self.answers([-2], function, i, j, own, [10] * 65537, [], [])
                    self.answers([-2], function, i, j, own, FAULT, [0] * 33, [0])
                    self.answers([-2], function, i, j, own, OVERLAP, [0], [8] * 33)
                    self.answers([-6, 4, 1], function, i, j, own, FAULT, [0], [8])
                    self.answers([-6, 4, 1], function, i, j, own, FAULT, [0, 0, 0], [0, 0, 0])
                    self.answers([-9, 1, 2], function, i, j, own, OVERLAP, [0, 0, 0], [0, 0, 0])
                    self.answers([-9, 1, 2], function, i, j, own, OVERLAP, [101], [8])
                    self.answers([-1], function, i, j, own, TWO, [101, 0], [0, 0])
                    self.answers([-1], function, i, j, own, TWO, [], [0])
            for own in wrong:
                for i, j in ((0, 0),) + NO_PAIRS:
                    self.answers([-1], function, i, j, own, TWO, [0, 0], [0, 0])
                    self.answers([-1], function, i, j, own, [], [], [])

    def test_the_text_s_length(self):
        for function, right, wrong in CALLS:
            for own in (right[0], wrong[0]):
                self.answers([-6, 0, 1], function, 0, 0, own, [10] * 65536, [101], [])
                self.answers([-2], function, 0, 0, own, [10] * 65537, [101], [])
                self.answers([-2], function, 0, 1, own, [0] * 70000, [], [])
                self.answers([-2], function, 0, 1, own, TWO, [0] * 100, [0, 0])
                self.answers([-2], function, 0, 1, own, TWO, [0, 0], [0] * 100)


if __name__ == "__main__":
    unittest.main()

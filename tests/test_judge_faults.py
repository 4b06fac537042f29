"""judge: formed lines that can't stand, clash or are too much, and which reason is told."""

import unittest

from tests.asking import judged

PART = "part a 2 3 4 x\n"
PUT = "put a rb 0 0 0\n"
CUT = "cut 0 0 0 1 1 1\n"


def parts(count):
    return "".join(f"part p{k} 1 1 1 x\n" for k in range(count))


def puts(count):
    return "".join(f"put a rb {2 * (k % 20)} {3 * (k // 20)} 0\n" for k in range(count))


class Faults(unittest.TestCase):
    def fault(self, text, line, why):
        with self.subTest(text=text[-60:]):
            self.assertEqual(judged(text), [-6, line, why])

    def right(self, text):
        with self.subTest(text=text[-60:]):
            self.assertEqual(judged(text), [0])

    def test_cannot_stand(self):
        self.fault(CUT, 0, 3)
        self.fault(CUT + PART, 0, 3)
        self.fault(PUT, 0, 3)
        self.fault(PUT + PART, 0, 3)
        self.fault(PART + PUT + CUT, 2, 3)
        self.fault(PART + PUT + "part b 1 1 1 x\n", 2, 3)
        self.fault(PART + CUT + PUT + "put a rb 2 0 0\n" + "part b 1 1 1 x\n", 4, 3)

    def test_a_name_told_already(self):
        self.fault(PART + PART, 1, 4)
        self.fault(PART + "part b 1 1 1 x\n" + CUT + "part a 5 5 5 z\n", 3, 4)
        self.right(PART + "part aa 2 3 4 x\n")

    def test_a_put_of_no_part(self):
        self.fault(PART + "put b rb 0 0 0\n", 1, 4)
        self.fault(PART + PUT + "put aa rb 0 0 0\n", 2, 4)
        self.right(PART + "part b 1 1 1 x\nput b rb 0 0 0\n")

    def test_a_cut_beyond_its_block(self):
        self.right(PART + "cut 0 0 0 2 3 4\n")
        for own in range(3):
            length = (2, 3, 4)[own]
            for start in range(length):
                place = [0, 0, 0]
                place[own] = start
                lengths = [1, 1, 1]
                lengths[own] = length - start
                self.right(PART + "cut {} {} {} {} {} {}\n".format(*place, *lengths))
                lengths[own] += 1
                self.fault(PART + "cut {} {} {} {} {} {}\n".format(*place, *lengths), 1, 4)
            place = [0, 0, 0]
            for start in (length, length + 1, 16, 4294967295):
                place[own] = start
                self.fault(PART + "cut {} {} {} 1 1 1\n".format(*place), 1, 4)

    def test_a_cut_is_of_the_part_above_it(self):
        self.right("part a 1 1 1 x\npart b 2 2 2 x\ncut 1 1 1 1 1 1\n")
        self.fault("part a 2 2 2 x\npart b 1 1 1 x\ncut 1 1 1 1 1 1\n", 2, 4)

    def test_too_many_parts(self):
        self.right(parts(32))
        self.fault(parts(33), 32, 2)
        self.fault(parts(40), 32, 2)

    def test_too_many_cuts(self):
        self.right(PART + CUT * 64)
        self.fault(PART + CUT * 65, 65, 2)
        self.right(PART + CUT * 64 + "part b 1 1 1 x\n" + CUT * 64)
        self.fault(PART + CUT * 64 + "part b 1 1 1 x\n" + CUT * 65, 130, 2)
        self.right(PART + CUT * 63 + "part b 1 1 1 x\n" + CUT * 2)

    def test_too_many_puts(self):
        self.right(PART + puts(32))
        self.fault(PART + puts(33), 33, 2)

    def test_a_cut_where_nothing_is_left_is_right(self):
        self.right(PART + "cut 0 0 0 2 3 4\n" * 2)


class SeveralReasons(unittest.TestCase):
    def fault(self, text, line, why):
        with self.subTest(text=text[-60:]):
            self.assertEqual(judged(text), [-6, line, why])

    def test_not_formed_is_told_before_all_else(self):
        self.fault("cut 0 0 0 1 1 17\n", 0, 1)
        self.fault("put a rr 0 0 0\n", 0, 1)
        self.fault("cut 0 0 0 1 1 1", 0, 1)
        self.fault(PART + PUT + "part a 0 1 1 x\n", 2, 1)
        self.fault(PART + PUT + "cut 9 0 0 1 1 0\n", 2, 1)
        self.fault(PART + "part a 1 1 1 w\n", 1, 1)
        self.fault(PART + "put b rb 0 0 49\n", 1, 1)
        self.fault(PART + "cut 99 0 0 17 1 1\n", 1, 1)
        self.fault(parts(32) + "part q 17 1 1 x\n", 32, 1)
        self.fault(PART + CUT * 64 + "cut 0 0 0 0 1 1\n", 65, 1)
        self.fault(PART + puts(32) + "put a rl 0 0 9\n", 33, 1)
        self.fault(PART + puts(32) + "put a rb 0 0 9", 33, 1)

    def test_cannot_stand_is_told_before_a_clash_and_too_much(self):
        self.fault(PART + PUT + PART, 2, 3)
        self.fault(PART + PUT + "cut 9 9 9 1 1 1\n", 2, 3)
        self.fault("put none rb 0 0 0\n", 0, 3)
        self.fault(parts(32) + "put p0 rb 0 0 0\npart q 1 1 1 x\n", 33, 3)
        self.fault(parts(32) + "put p0 rb 0 0 0\npart p0 1 1 1 x\n", 33, 3)
        self.fault(PART + CUT * 64 + PUT + CUT, 66, 3)
        self.fault(PART + CUT * 64 + PUT + "cut 2 0 0 1 1 1\n", 66, 3)

    def test_a_clash_is_told_before_too_much(self):
        self.fault(parts(32) + "part p31 1 1 1 x\n", 32, 4)
        self.fault(PART + CUT * 64 + "cut 2 0 0 1 1 1\n", 65, 4)
        self.fault(PART + puts(32) + "put b rb 0 0 9\n", 33, 4)

    def test_the_first_of_several_wrong_lines(self):
        self.fault(PART + PART + "wrong\n" + CUT, 1, 4)
        self.fault(PART + "put b rb 0 0 0\n" + "wrong\n", 1, 4)
        self.fault(PART + PUT + CUT + "wrong\n", 2, 3)
        self.fault(PART + CUT + "wrong\n" + PUT + CUT, 2, 1)
        self.fault(parts(33) + "wrong\n", 32, 2)
        self.fault(CUT + PUT + "wrong", 0, 3)

    def test_a_wrong_line_is_not_taken(self):
        # Were the first wrong line passed over, another line would be told.
        self.fault(PART + "part b 17 1 1 x\nput b rb 0 0 0\n", 1, 1)


if __name__ == "__main__":
    unittest.main()

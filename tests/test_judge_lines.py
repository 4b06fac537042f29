"""judge: the form of each line."""

import unittest

from tests.asking import WAYS, ask, judged
from woodswell.swelling import judge

PART = "part a 2 3 4 x\n"


class LineCase(unittest.TestCase):
    def right(self, *texts):
        for text in texts:
            with self.subTest(text=text[:80]):
                self.assertEqual(judged(text), [0])

    def unformed(self, line, *texts):
        for text in texts:
            with self.subTest(text=text[:80]):
                self.assertEqual(judged(text), [-6, line, 1])


class Right(LineCase):
    def test_empty_text(self):
        self.assertEqual(ask(judge, [], [], []), [0])

    def test_ordinary_works(self):
        self.right(
            PART,
            PART + "cut 0 0 0 1 1 1\n",
            PART + "part b 1 1 1 z\n",
            PART + "put a rb 0 0 0\n",
            PART + "cut 0 0 0 1 1 1\ncut 0 0 0 1 1 1\npart b 1 1 1 y\nput b fu 9 9 9\nput a rb 0 0 0\nput a rb 2 0 0\n",
        )


class Names(LineCase):
    def test_lengths(self):
        self.right("part a 1 1 1 x\nput a rb 0 0 0\n", "part abcdefghijkl 1 1 1 x\nput abcdefghijkl rb 0 0 0\n")
        self.unformed(0, "part  1 1 1 x\n", "part abcdefghijklm 1 1 1 x\n")
        self.unformed(1, PART + "put  rb 0 0 0\n", PART + "put abcdefghijklm rb 0 0 0\n")

    def test_every_sign(self):
        for byte in range(256):
            line = [*b"part a", byte, *b"b 1 1 1 x\n"]
            with self.subTest(byte=byte):
                if byte in b"abcdefghijklmnopqrstuvwxyz0123456789":
                    self.assertEqual(ask(judge, line, [], []), [0])
                else:
                    self.assertEqual(ask(judge, line, [], []), [-6, 0, 1])

    def test_names_with_differing_signs_are_told_apart(self):
        signs = "abcdefghijklmnopqrstuvwxyz0123456789"
        for chosen in (signs[:18], signs[18:]):
            self.right("".join(f"part {sign} 1 1 1 x\n" for sign in chosen))
        self.right("part 0 1 1 1 x\npart 00 1 1 1 x\npart part 1 1 1 x\nput part rb 0 0 0\n")

    def test_a_put_s_name_has_the_same_signs(self):
        self.unformed(1, PART + "put A rb 0 0 0\n", PART + "put a_ rb 0 0 0\n", PART + "put a\xff rb 0 0 0\n")


class Numbers(LineCase):
    def test_a_first_0(self):
        self.unformed(0, "part a 01 1 1 x\n", "part a 1 01 1 x\n", "part a 1 1 01 x\n")
        self.unformed(1, PART + "cut 00 0 0 1 1 1\n", PART + "cut 0 01 0 1 1 1\n", PART + "cut 0 0 0 1 1 01\n")
        self.unformed(1, PART + "put a rb 00 0 0\n", PART + "put a rb 0 048 0\n", PART + "put a rb 0 0 01\n")

    def test_no_digits(self):
        for word in ("a", "-1", "+1", "1.", "1a", "a1", "x", "\xb2", "\xb9", "1\xb2", "1_0", "\t1", "1\r"):
            self.unformed(0, f"part a {word} 1 1 x\n", f"part a 1 {word} 1 x\n", f"part a 1 1 {word} x\n")
            for k in range(6):
                numbers = ["0", "0", "0", "1", "1", "1"]
                numbers[k] = word
                self.unformed(1, PART + "cut " + " ".join(numbers) + "\n")
            for k in range(3):
                numbers = ["0", "0", "0"]
                numbers[k] = word
                self.unformed(1, PART + "put a rb " + " ".join(numbers) + "\n")

    def test_very_many_digits(self):
        for many in ("9" * 9, "9" * 10, "4294967296", "18446744073709551616", "1" + "0" * 5000, "7" * 60000):
            self.unformed(0, f"part a {many} 1 1 x\n")
            self.unformed(1, PART + f"put a rb 0 0 {many}\n", PART + f"cut 0 0 0 {many} 1 1\n")
            for place in (f"{many} 0 0", f"0 {many} 0", f"0 0 {many}"):
                with self.subTest(digits=len(many), place=place[:20]):
                    # A cut's place may be any number, so that this is beyond the block, not unformed.
                    self.assertEqual(judged(PART + f"cut {place} 1 1 1\n"), [-6, 1, 4])
        self.unformed(1, PART + "cut 0" + "1" * 6000 + " 0 0 1 1 1\n")

    def test_a_part_s_lengths(self):
        for length in (1, 2, 9, 10, 15, 16):
            self.right(f"part a {length} 1 1 x\n", f"part a 1 {length} 1 x\n", f"part a 1 1 {length} x\n")
        for length in (0, 17, 100):
            self.unformed(0, f"part a {length} 1 1 x\n", f"part a 1 {length} 1 x\n", f"part a 1 1 {length} x\n")

    def test_a_cut_s_lengths(self):
        block = "part a 16 16 16 x\n"
        for length in (1, 16):
            self.right(*(block + f"cut 0 0 0 {lengths}\n"
                         for lengths in (f"{length} 1 1", f"1 {length} 1", f"1 1 {length}")))
        for length in (0, 17):
            self.unformed(1, *(block + f"cut 0 0 0 {lengths}\n"
                               for lengths in (f"{length} 1 1", f"1 {length} 1", f"1 1 {length}")))

    def test_a_put_s_corner(self):
        for place in (0, 1, 47, 48):
            self.right(PART + f"put a rb {place} 0 0\n", PART + f"put a rb 0 {place} 0\n",
                       PART + f"put a rb 0 0 {place}\n")
        for place in (49, 50, 480):
            self.unformed(1, PART + f"put a rb {place} 0 0\n", PART + f"put a rb 0 {place} 0\n",
                          PART + f"put a rb 0 0 {place}\n")


class Grains(LineCase):
    def test_grains(self):
        self.right("part a 1 1 1 x\n", "part a 1 1 1 y\n", "part a 1 1 1 z\n")
        wrong = ("w", "a", "X", "xy", "yz", "xyz", "xx", "0", "", "?")
        self.unformed(0, *(f"part a 1 1 1 {grain}\n" for grain in wrong))


class Ways(LineCase):
    def test_all_pairs_of_letters(self):
        self.assertEqual(len(WAYS), 24)
        for a in "rlbfud":
            for b in "rlbfud":
                text = PART + f"put a {a}{b} 0 0 0\n"
                if a + b in WAYS:
                    self.right(text)
                else:
                    self.unformed(1, text)

    def test_no_ways(self):
        wrong = ("", "r", "b", "rbu", "rx", "xr", "x", "RB", "r?", "?b", "??", "rl", "rlb", "fud")
        self.unformed(1, *(PART + f"put a {ways} 0 0 0\n" for ways in wrong))
        self.unformed(1, PART + "put a r b 0 0 0\n")


class Forms(LineCase):
    def test_blanks(self):
        lines = ((0, "", "part a 2 3 4 x"), (1, PART, "cut 0 0 0 1 1 1"), (1, PART, "put a rb 0 0 0"))
        for number, before, line in lines:
            self.right(before + line + "\n")
            self.unformed(number, before + " " + line + "\n", before + line + " \n", before + "\t" + line + "\n")
            for k in range(len(line)):
                if line[k] == " ":
                    for between in ("", "  ", "\t", "\x00"):
                        self.unformed(number, before + line[:k] + between + line[k + 1:] + "\n")

    def test_too_few_and_too_many(self):
        self.unformed(0, "part\n", "part a\n", "part a 1 1 1\n", "part a 1 1 x\n", "part a 1 1 1 x x\n",
                      "part a 1 1 1 1 x\n")
        self.unformed(1, PART + "cut\n", PART + "cut 0 0 0 1 1\n", PART + "cut 0 0 0 1 1 1 1\n")
        self.unformed(1, PART + "put\n", PART + "put a rb 0 0\n", PART + "put a rb 0 0 0 0\n", PART + "put a 0 0 0\n")

    def test_without_its_line_feed(self):
        self.unformed(0, "part a 2 3 4 x", "p", " ", "\x00", "\r")
        self.unformed(1, PART + "cut 0 0 0 1 1 1", PART + "put a rb 0 0 0", PART + "part b 1 1 1 x", PART + " ")

    def test_empty_lines(self):
        self.unformed(0, "\n", "\n\n", "\n" + PART)
        self.unformed(1, PART + "\n", PART + "\n" + PART)

    def test_words_that_are_no_line_s(self):
        self.unformed(0, "parts a 2 3 4 x\n", "Part a 2 3 4 x\n", "PART a 2 3 4 x\n", "par a 2 3 4 x\n",
                      "a 2 3 4 x\n", "x\n")
        self.unformed(1, PART + "cuts 0 0 0 1 1 1\n", PART + "puts a rb 0 0 0\n", PART + "CUT 0 0 0 1 1 1\n")

    def test_a_return_is_no_line_feed(self):
        self.unformed(0, "part a 2 3 4 x\r\n", "part a 2 3 4 x\r", "part a 2 3 4 x\x0b", "part a 2 3 4 x\x85")

    def test_every_byte_by_itself_and_as_a_line(self):
        for byte in range(256):
            with self.subTest(byte=byte):
                self.assertEqual(ask(judge, [byte], [], []), [-6, 0, 1])
                self.assertEqual(ask(judge, [*PART.encode(), byte, 10], [], []), [-6, 1, 1])

    def test_every_byte_in_the_blank_s_place(self):
        for byte in range(256):
            with self.subTest(byte=byte):
                answer = [0] if byte == 32 else [-6, 0, 1]
                self.assertEqual(ask(judge, [*b"part a", byte, *b"1 1 1 x\n"], [], []), answer)


if __name__ == "__main__":
    unittest.main()

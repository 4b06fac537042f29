"""The form of a work's lines: what a formed line says."""

LETTERS = "abcdefghijklmnopqrstuvwxyz"
DIGITS = "0123456789"
NAME_SIGNS = "abcdefghijklmnopqrstuvwxyz0123456789"
WAY_LETTERS = "rlbfud"
GRAINS = ("x", "y", "z")

# Stands for every byte that no formed line has, so that lines can be read as texts.
STRANGE = "?"

# A number of more digits is above every bound of the document; Python's int takes only some thousands of digits.
MOST_DIGITS = 9
HUGE = 1000000000
NO_NUMBER = -1

LONGEST_NAME = 12
LONGEST_SIDE = 16
FARTHEST_CORNER = 48


class Line:
    def __init__(self, kind, name, letters, numbers):
        self.kind = kind
        self.name = name
        self.letters = letters
        self.numbers = numbers


def sign_of(byte):
    if 97 <= byte <= 122:
        return LETTERS[byte - 97]
    if 48 <= byte <= 57:
        return DIGITS[byte - 48]
    if byte == 32:
        return " "
    if byte == 10:
        return "\n"
    return STRANGE


def split_lines(text):
    pieces = "".join([sign_of(byte) for byte in text]).split("\n")
    unfinished = pieces.pop()
    if unfinished != "":
        # Without its line feed a line isn't formed, whatever stands in it.
        pieces.append(STRANGE)
    return pieces


def is_name(word):
    return 1 <= len(word) <= LONGEST_NAME and all([sign in NAME_SIGNS for sign in word])


def number_of(word):
    if not word.isdigit():
        return NO_NUMBER
    if word[0] == "0" and len(word) > 1:
        return NO_NUMBER
    if len(word) > MOST_DIGITS:
        return HUGE
    return int(word)


def all_within(numbers, low, high):
    return all([low <= number <= high for number in numbers])


def are_ways(word):
    if len(word) != 2:
        return False
    right = WAY_LETTERS.find(word[0])
    back = WAY_LETTERS.find(word[1])
    if right < 0 or back < 0:
        return False
    # A way and its opposite stand beside one another in the list, so halving tells the axis.
    return right // 2 != back // 2


def read_part(words):
    if len(words) != 6 or not is_name(words[1]) or words[5] not in GRAINS:
        return None
    lengths = [number_of(word) for word in words[2:5]]
    if not all_within(lengths, 1, LONGEST_SIDE):
        return None
    return Line("part", words[1], words[5], lengths)


def read_cut(words):
    if len(words) != 7:
        return None
    numbers = [number_of(word) for word in words[1:]]
    if not all_within(numbers[:3], 0, HUGE) or not all_within(numbers[3:], 1, LONGEST_SIDE):
        return None
    return Line("cut", "", "", numbers)


def read_put(words):
    if len(words) != 6 or not is_name(words[1]) or not are_ways(words[2]):
        return None
    corner = [number_of(word) for word in words[3:]]
    if not all_within(corner, 0, FARTHEST_CORNER):
        return None
    return Line("put", words[1], words[2], corner)


def read_line(line):
    words = line.split(" ")
    if words[0] == "part":
        return read_part(words)
    if words[0] == "cut":
        return read_cut(words)
    if words[0] == "put":
        return read_put(words)
    return None

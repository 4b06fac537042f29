"""A work's text: its parts and puts, or its fault."""

from woodswell.grid import three_ways
from woodswell.lines import GRAINS, read_line, split_lines

RIGHT = 0
NOT_FORMED = 1
TOO_MUCH = 2
CANNOT_STAND = 3
CLASHES = 4

MOST_PARTS = 32
MOST_CUTS = 64
MOST_PUTS = 32


class Cut:
    def __init__(self, start, lengths):
        self.start = start
        self.lengths = lengths


class Part:
    def __init__(self, lengths, grain):
        self.lengths = lengths
        self.grain = grain
        self.cuts = []


class Put:
    def __init__(self, part, ways, corner):
        self.part = part
        self.ways = ways
        self.corner = corner


class Work:
    def __init__(self):
        self.parts = {}
        self.newest = None
        self.puts = []
        self.fault = []


def part_fault(work, line):
    if len(work.puts) > 0:
        return CANNOT_STAND
    if line.name in work.parts:
        return CLASHES
    if len(work.parts) >= MOST_PARTS:
        return TOO_MUCH
    return RIGHT


def goes_beyond(numbers, lengths):
    return any([numbers[axis] + numbers[3 + axis] > lengths[axis] for axis in range(3)])


def cut_fault(work, line):
    if work.newest is None or len(work.puts) > 0:
        return CANNOT_STAND
    if goes_beyond(line.numbers, work.newest.lengths):
        return CLASHES
    if len(work.newest.cuts) >= MOST_CUTS:
        return TOO_MUCH
    return RIGHT


def put_fault(work, line):
    if len(work.parts) == 0:
        return CANNOT_STAND
    if line.name not in work.parts:
        return CLASHES
    if len(work.puts) >= MOST_PUTS:
        return TOO_MUCH
    return RIGHT


def line_fault(work, line):
    if line is None:
        return NOT_FORMED
    if line.kind == "part":
        return part_fault(work, line)
    if line.kind == "cut":
        return cut_fault(work, line)
    return put_fault(work, line)


def take_line(work, line):
    if line.kind == "part":
        work.newest = Part(line.numbers, GRAINS.index(line.letters))
        work.parts[line.name] = work.newest
    elif line.kind == "cut":
        work.newest.cuts.append(Cut(line.numbers[:3], line.numbers[3:]))
    else:
        work.puts.append(Put(work.parts[line.name], three_ways(line.letters), line.numbers))


def read_work(text):
    work = Work()
    for place, row in enumerate(split_lines(text)):
        line = read_line(row)
        why = line_fault(work, line)
        if why != RIGHT:
            work.fault = [place, why]
            return work
        take_line(work, line)
    return work

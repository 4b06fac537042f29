"""The document once more, cell by cell and without care for speed, to hold the program against."""

import itertools
import re
from fractions import Fraction

NUMBER = rb"(0|[1-9][0-9]*)"
NAME = rb"([a-z0-9]{1,12})"
FORMS = {
    "part": re.compile(rb"part " + NAME + rb" " + rb" ".join([NUMBER] * 3) + rb" ([xyz])\n"),
    "cut": re.compile(rb"cut " + rb" ".join([NUMBER] * 6) + rb"\n"),
    "put": re.compile(rb"put " + NAME + rb" ([rlbfud])([rlbfud]) " + rb" ".join([NUMBER] * 3) + rb"\n"),
}
STEPS = {"r": (1, 0, 0), "l": (-1, 0, 0), "b": (0, 1, 0), "f": (0, -1, 0), "u": (0, 0, 1), "d": (0, 0, -1)}


class Wrong(Exception):
    pass


def formed(line):
    for kind, form in FORMS.items():
        match = form.fullmatch(line)
        if match:
            words = [word.decode() for word in match.groups()]
            if kind == "part" and all(1 <= int(word) <= 16 for word in words[1:4]):
                return kind, words
            if kind == "cut" and all(1 <= int(word) <= 16 for word in words[3:]):
                return kind, words
            if kind == "put" and all(int(word) <= 48 for word in words[3:]):
                dot = sum(a * b for a, b in zip(STEPS[words[1]], STEPS[words[2]]))
                if dot == 0:
                    return kind, words
    return None, []


def reasons(kind, words, parts, puts):
    """Every reason that holds of a line."""
    if kind is None:
        return {1}
    held = set()
    if kind == "part":
        held |= {3} if puts else set()
        held |= {4} if any(part["name"] == words[0] for part in parts) else set()
        held |= {2} if len(parts) == 32 else set()
    if kind == "cut":
        held |= {3} if puts or not parts else set()
        if parts:
            numbers = [int(word) for word in words]
            lengths = parts[-1]["lengths"]
            held |= {4} if any(numbers[k] + numbers[3 + k] > lengths[k] for k in range(3)) else set()
            held |= {2} if len(parts[-1]["cuts"]) == 64 else set()
    if kind == "put":
        held |= {3} if not parts else set()
        held |= {4} if not any(part["name"] == words[0] for part in parts) else set()
        held |= {2} if len(puts) == 32 else set()
    return held


def read(text):
    parts, puts = [], []
    for number, line in enumerate(re.findall(rb"[^\n]*\n|[^\n]+", bytes(text))):
        kind, words = formed(line)
        held = reasons(kind, words, parts, puts)
        for why in (1, 3, 4, 2):
            if why in held:
                raise Wrong([-6, number, why])
        if kind == "part":
            lengths = [int(word) for word in words[1:4]]
            parts.append({"name": words[0], "lengths": lengths, "grain": "xyz".index(words[4]), "cuts": []})
        elif kind == "cut":
            parts[-1]["cuts"].append([int(word) for word in words])
        else:
            part = [part for part in parts if part["name"] == words[0]][0]
            puts.append(lie(part, STEPS[words[1]], STEPS[words[2]], [int(word) for word in words[3:]]))
    return puts


def lie(part, a, b, corner):
    c = (a[1] * b[2] - a[2] * b[1], a[2] * b[0] - a[0] * b[2], a[0] * b[1] - a[1] * b[0])
    cells = set()
    lengths = [sum(abs(way[k]) * part["lengths"][own] for own, way in enumerate((a, b, c))) for k in range(3)]
    for cell in itertools.product(*(range(length) for length in part["lengths"])):
        if any(all(cut[k] <= cell[k] < cut[k] + cut[3 + k] for k in range(3)) for cut in part["cuts"]):
            continue
        place = list(corner)
        for own, way in enumerate((a, b, c)):
            for k in range(3):
                if way[k] == 1:
                    place[k] += cell[own]
                if way[k] == -1:
                    place[k] += part["lengths"][own] - 1 - cell[own]
        cells.add(tuple(place))
    grain = [k for k in range(3) if (a, b, c)[part["grain"]][k] != 0][0]
    return {"cells": cells, "grain": grain, "low": corner, "high": [corner[k] + lengths[k] for k in range(3)]}


def judge(text, swells, held, own_right=True):
    if len(text) > 65536 or len(swells) > 32 or len(held) > 32:
        return [-2]
    try:
        puts = read(text)
    except Wrong as wrong:
        return wrong.args[0]
    for i, j in itertools.combinations(range(len(puts)), 2):
        if puts[i]["cells"] & puts[j]["cells"]:
            return [-9, i, j]
    if not len(puts) == len(swells) == len(held) or max(swells, default=0) > 100 or max(held, default=0) > 7:
        return [-1]
    return [0] if own_right else [-1]


def lies_at(put, swell, held, axis, t, m):
    corner = put["high"][axis] if held & (1, 2, 4)[axis] else put["low"][axis]
    factor = 1 if put["grain"] == axis else 1 + Fraction(swell * m, 100000)
    return corner + (t - corner) * factor


def plane(i, axis, t, m, text, swells, held):
    refused = judge(text, swells, held, axis in (0, 1, 2) and t < 65 and abs(m) <= 200)
    if refused != [0]:
        return refused
    puts = read(text)
    if i not in range(len(puts)):
        return [-4]
    lies = lies_at(puts[i], swells[i], held[i], axis, t, m) * 100000
    assert lies.denominator == 1
    return [0, int(lies)]


def spans(put, swell, held, axis, m):
    """By each number of a cell along the axis, between which planes it lies."""
    return {k: (lies_at(put, swell, held, axis, k, m), lies_at(put, swell, held, axis, k + 1, m))
            for k in range(put["low"][axis], put["high"][axis])}


def bound(one, other, m):
    """Whether two puts, each with its swell and held corner, bind: every cell against each that it may meet."""
    met = []
    for axis in range(3):
        theirs = spans(*other, axis, m)
        met.append({k: [n for n in theirs if max(low, theirs[n][0]) < min(high, theirs[n][1])]
                    for k, (low, high) in spans(*one, axis, m).items()})
    return any(cell in other[0]["cells"] for x, y, z in one[0]["cells"]
               for cell in itertools.product(met[0][x], met[1][y], met[2][z]))


def pair(i, j, text, swells, held, own_right):
    """What refuses a pair, or the two puts, each with its swell and held corner."""
    refused = judge(text, swells, held, own_right)
    if refused != [0]:
        return refused, []
    puts = read(text)
    if i not in range(len(puts)) or j not in range(len(puts)):
        return [-4], []
    return [-8] if i == j else [], [(puts[k], swells[k], held[k]) for k in (i, j)]


def binds(i, j, m, text, swells, held):
    refused, two = pair(i, j, text, swells, held, abs(m) <= 200)
    return refused or [int(bound(*two, m))]


def first(i, j, dry, text, swells, held):
    refused, two = pair(i, j, text, swells, held, dry in (0, 1))
    if refused:
        return refused
    bound_at = [m for m in range(-200, 201) if m != 0 and (m < 0) == (dry == 1) and bound(*two, m)]
    return [0, min(bound_at, key=abs)] if bound_at else [-3]


def work(dry, text, swells, held):
    refused = judge(text, swells, held, dry in (0, 1))
    if refused != [0]:
        return refused
    pieces = list(zip(read(text), swells, held))
    for far in range(1, 201):
        m = -far if dry == 1 else far
        for i, j in itertools.combinations(range(len(pieces)), 2):
            if bound(pieces[i], pieces[j], m):
                return [0, m, i, j]
    return [-3]


def gap(i, j, axis, m, text, swells, held):
    refused, two = pair(i, j, text, swells, held, axis in (0, 1, 2) and abs(m) <= 200)
    if refused:
        return refused
    apart = []
    for cell, step in itertools.product(two[0][0]["cells"], (1, -1)):
        beside = tuple(cell[k] + (step if k == axis else 0) for k in range(3))
        if beside in two[1][0]["cells"]:
            faces = [lies_at(*piece, axis, max(cell[axis], beside[axis]), m) for piece in two]
            apart.append((faces[1] - faces[0]) * step * 100000)
    assert all(distance.denominator == 1 for distance in map(Fraction, apart))
    return [0, int(max(apart))] if apart else [-3]

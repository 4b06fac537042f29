"""Turned parts: where their axes lie, and a part of four cells that no turning brings to its mirror image."""

import itertools

from tests.asking import WAYS

STEPS = {"r": (1, 0, 0), "l": (-1, 0, 0), "b": (0, 1, 0), "f": (0, -1, 0), "u": (0, 0, 1), "d": (0, 0, -1)}
LENGTHS = (2, 3, 4)
CELLS = ((0, 0, 0), (1, 0, 0), (0, 2, 0), (0, 0, 3))


def own_axes(ways):
    """The grid's axes along which the part's x, y and z lie; the third is the one that's left."""
    right, back = ("rlbfud".index(letter) // 2 for letter in ways)
    return (right, back, 3 - right - back)


def turned_neighbours():
    """Two blocks, turned alike, that touch at 12: by the axis and whether their grain lies along it, their text."""
    for ways in WAYS:
        for own, axis in itertools.product(range(3), repeat=2):
            corner = [10, 10, 10]
            corner[axis] = 12
            text = "part a 2 2 2 {}\nput a {} 10 10 10\nput a {} {} {} {}\n".format("xyz"[own], ways, ways, *corner)
            yield axis, own_axes(ways)[own] == axis, text


def crooked_part(name, grain):
    block = itertools.product(*(range(length) for length in LENGTHS))
    cuts = "".join("cut {} {} {} 1 1 1\n".format(*cell) for cell in block if cell not in CELLS)
    return f"part {name} 2 3 4 {grain}\n" + cuts


def turned_cells(ways):
    """Told from the lowest corner of the turned block."""
    a, b = STEPS[ways[0]], STEPS[ways[1]]
    c = (a[1] * b[2] - a[2] * b[1], a[2] * b[0] - a[0] * b[2], a[0] * b[1] - a[1] * b[0])
    low = [sum(min(0, way[k] * (LENGTHS[own] - 1)) for own, way in enumerate((a, b, c))) for k in range(3)]
    return {tuple(sum(way[k] * cell[own] for own, way in enumerate((a, b, c))) - low[k] for k in range(3))
            for cell in CELLS}

"""Whether two puts bind: whether a cell of the one and a cell of the other have a box in common that isn't flat."""

from woodswell.damp import MOST_DAMP, cell_length, plane_at
from woodswell.grid import cell_rows, turned_block

# A put's cells are bits of one number: the cell (x, y, z), told from its block's lowest corner, is the bit
# x + 16 y + 256 z. So all cells that lie at one place of an axis are moved in one step.
BIT_STEPS = (1, 16, 256)
LONGEST = 16


class Piece:
    def __init__(self, put, swell, held):
        self.put = put
        self.swell = swell
        self.held = held
        self.block = turned_block(put)
        self.cells = cell_bits(put, self.block.low)


def cell_bits(put, low):
    rows = cell_rows(put)
    cells = 0
    for place in rows:
        row = (place[0] - low[1]) * BIT_STEPS[1] + (place[1] - low[2]) * BIT_STEPS[2]
        cells = cells | ((rows[place] >> low[0]) << row)
    return cells


def repeated(bits, step):
    made = 0
    for k in range(LONGEST):
        made = made | (bits << (k * step))
    return made


# The bits of the cells that lie at 0 of an axis, for each axis.
def first_layers():
    layers = []
    for axis in range(3):
        bits = 1
        for other in range(3):
            if other != axis:
                bits = repeated(bits, BIT_STEPS[other])
        layers.append(bits)
    return layers


def planes_at(piece, axis, m):
    low = piece.block.low[axis]
    lowest = plane_at(piece.put, piece.swell, piece.held, axis, low, m)
    length = cell_length(piece.put, piece.swell, axis, m)
    return [lowest + k * length for k in range(piece.block.high[axis] - low + 1)]


# Each plane by where it lies at both dampnesses. It moves evenly from the one to the other, so what it isn't below at
# either, it isn't below between them.
def planes_of(piece, axis, near, far):
    return list(zip(planes_at(piece, axis, near), planes_at(piece, axis, far)))


def is_below(plane, other):
    return plane[0] < other[0] or plane[1] < other[1]


# Which cells of the two may have more than a plane in common on an axis, by their numbers along it. Planes keep their
# order, so what lies wholly below one cell lies wholly below the next, too.
def shared_spans(some, others):
    pairs = []
    start = 0
    for a in range(len(some) - 1):
        while start + 1 < len(others) and not is_below(some[a], others[start + 1]):
            start = start + 1
        b = start
        while b + 1 < len(others) and is_below(others[b], some[a + 1]):
            pairs.append((a, b))
            b = b + 1
    return pairs


def carried(cells, layer, step, pairs):
    reached = 0
    for pair in pairs:
        reached = reached | (((cells >> (pair[0] * step)) & layer) << (pair[1] * step))
    return reached


# False only if they bind at no dampness from near to far; of one dampness alone it tells just whether they bind.
# Boxes have a box in common if their spans have one on each axis, so the cells of the one are carried to all cells of
# the other's block that they reach, axis by axis.
def may_bind(one, other, near, far):
    layers = first_layers()
    reached = one.cells
    for axis in range(3):
        pairs = shared_spans(planes_of(one, axis, near, far), planes_of(other, axis, near, far))
        reached = carried(reached, layers[axis], BIT_STEPS[axis], pairs)
        if reached == 0:
            return False
    return (reached & other.cells) != 0


# way is 1 when damp, -1 when dry, most how far from 0 it's looked for; 0, if they bind nowhere there. They may come
# free again beyond where they bind first, so spans of dampness are halved, and the half nearer to 0 is asked first.
def first_bound(one, other, way, most):
    spans = [(1, most)]
    while len(spans) > 0:
        span = spans.pop()
        near = span[0]
        far = span[1]
        if near <= far and may_bind(one, other, way * near, way * far):
            if near == far:
                return way * near
            middle = (near + far) // 2
            spans.append((middle + 1, far))
            spans.append((near, middle))
    return 0


# The dampness and the pair; empty, if there's none. A pair takes the place of an earlier one only if it binds nearer
# to 0, so of those that bind at the same the first stays.
def first_pair(pieces, way):
    told = []
    most = MOST_DAMP
    for i in range(len(pieces)):
        for j in range(i + 1, len(pieces)):
            m = first_bound(pieces[i], pieces[j], way, most)
            if m != 0:
                told = [m, i, j]
                most = abs(m) - 1
    return told

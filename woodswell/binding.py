"""Whether two puts bind: whether a cell of the one and a cell of the other have a box in common that isn't flat."""

from woodswell.damp import MOST_DAMP, cell_length, plane_at
from woodswell.grid import cell_rows, turned_block

# A put's cells are bits of one number: the cell (x, y, z), told from its block's lowest corner, is the bit
# x + 16 y + 256 z. So all cells that lie at one place of an axis are moved in one step.
BIT_STEPS = (1, 16, 256)
LONGEST = 16


class Piece:
    def __init__(self, put, swell, held):
        self.put = put
        self.swell = swell
        self.held = held
        self.block = turned_block(put)
        self.cells = cell_bits(put, self.block.low)


def cell_bits(put, low):
    rows = cell_rows(put)
    cells = 0
    for place in rows:
        row = (place[0] - low[1]) * BIT_STEPS[1] + (place[1] - low[2]) * BIT_STEPS[2]
        cells = cells | ((rows[place] >> low[0]) << row)
    return cells


def repeated(bits, step):
    made = 0
    for k in range(LONGEST):
        made = made | (bits << (k * step))
    return made


# The bits of the cells that lie at 0 of an axis, for each axis.
def first_layers():
    layers = []
    for axis in range(3):
        bits = 1
        for other in range(3):
            if other != axis:
                bits = repeated(bits, BIT_STEPS[other])
        layers.append(bits)
    return layers


def planes_of(piece, axis, m):
    low = piece.block.low[axis]
    lowest = plane_at(piece.put, piece.swell, piece.held, axis, low, m)
    length = cell_length(piece.put, piece.swell, axis, m)
    return [lowest + k * length for k in range(piece.block.high[axis] - low + 1)]


# Which cells of the two have more than a plane in common on an axis, by their numbers along it. Planes keep their
# order, so one walk along both tells them all.
def shared_spans(some, others):
    pairs = []
    a = 0
    b = 0
    while a + 1 < len(some) and b + 1 < len(others):
        if some[a] < others[b + 1] and others[b] < some[a + 1]:
            pairs.append((a, b))
        if some[a + 1] < others[b + 1]:
            a = a + 1
        else:
            b = b + 1
    return pairs


def carried(cells, layer, step, pairs):
    reached = 0
    for pair in pairs:
        reached = reached | (((cells >> (pair[0] * step)) & layer) << (pair[1] * step))
    return reached


# Boxes have a box in common if their spans have one on each axis, so the cells of the one are carried to all cells of
# the other's block that they reach, axis by axis.
def pieces_bind(one, other, layers, m):
    reached = one.cells
    for axis in range(3):
        pairs = shared_spans(planes_of(one, axis, m), planes_of(other, axis, m))
        reached = carried(reached, layers[axis], BIT_STEPS[axis], pairs)
        if reached == 0:
            return False
    return (reached & other.cells) != 0


# way is 1 when damp, -1 when dry; 0, if they bind at no dampness that way. They may come free again beyond where they
# bind first, so every dampness is asked in turn, the nearest to 0 first.
def first_bound(one, other, way):
    layers = first_layers()
    for far in range(1, MOST_DAMP + 1):
        if pieces_bind(one, other, layers, way * far):
            return way * far
    return 0

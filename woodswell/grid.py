"""Where puts lie in the grid at dampness 0: turned boxes, rows of cells, overlap, cells beside one another."""

from woodswell.lines import WAY_LETTERS

# The steps of the ways 0 to 5; a way's axis is its half, and the even ways go up their axis.
STEPS = ((1, 0, 0), (-1, 0, 0), (0, 1, 0), (0, -1, 0), (0, 0, 1), (0, 0, -1))


class Box:
    def __init__(self, low, high):
        self.low = low
        self.high = high


def cross_product(a, b):
    return (a[1] * b[2] - a[2] * b[1], a[2] * b[0] - a[0] * b[2], a[0] * b[1] - a[1] * b[0])


def three_ways(letters):
    right = WAY_LETTERS.index(letters[0])
    back = WAY_LETTERS.index(letters[1])
    up = STEPS.index(cross_product(STEPS[right], STEPS[back]))
    return (right, back, up)


def turned_box(put, start, lengths):
    low = [0, 0, 0]
    high = [0, 0, 0]
    for own in range(3):
        way = put.ways[own]
        axis = way // 2
        before = start[own]
        if way % 2 == 1:
            # Turned about, the box begins where it ended: as far from the block's other end.
            before = put.part.lengths[own] - start[own] - lengths[own]
        low[axis] = put.corner[axis] + before
        high[axis] = low[axis] + lengths[own]
    return Box(low, high)


def turned_block(put):
    return turned_box(put, (0, 0, 0), put.part.lengths)


def grain_axis(put):
    return put.ways[put.part.grain] // 2


def row_places(box):
    places = []
    for y in range(box.low[1], box.high[1]):
        for z in range(box.low[2], box.high[2]):
            places.append((y, z))
    return places


def row_bits(box):
    return ((1 << (box.high[0] - box.low[0])) - 1) << box.low[0]


# Cells are kept as rows along x, bit x of the row at (y, z): a cut then takes one step a row, not one a cell.
def cell_rows(put):
    block = turned_block(put)
    rows = {}
    for place in row_places(block):
        rows[place] = row_bits(block)
    for cut in put.part.cuts:
        box = turned_box(put, cut.start, cut.lengths)
        bits = row_bits(box)
        for place in row_places(box):
            rows[place] = rows[place] & ~bits
    return rows


def moved_up(rows, axis):
    moved = {}
    for place in rows:
        if axis == 0:
            moved[place] = rows[place] << 1
        elif axis == 1:
            moved[(place[0] + 1, place[1])] = rows[place]
        else:
            moved[(place[0], place[1] + 1)] = rows[place]
    return moved


# The planes of an axis at which a cell of the lower ends and one of the upper begins, beside it. Moved up by one, a
# cell lies where the cell beside it lies.
def facing_planes(lower, upper, axis):
    moved = moved_up(lower, axis)
    planes = 0
    for place in moved:
        both = moved[place] & upper.get(place, 0)
        if axis == 0:
            planes = planes | both
        elif both != 0:
            planes = planes | (1 << place[axis - 1])
    return [t for t in range(planes.bit_length()) if ((planes >> t) & 1) == 1]


def rows_meet(some, others):
    for place in some:
        if (some[place] & others.get(place, 0)) != 0:
            return True
    return False


# Empty, if no two puts overlap.
def first_overlap(puts):
    rows = [cell_rows(put) for put in puts]
    for i in range(len(puts)):
        for j in range(i + 1, len(puts)):
            if rows_meet(rows[i], rows[j]):
                return [i, j]
    return []

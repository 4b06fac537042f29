"""Where the planes of a put lie when it is damp or dry."""

from woodswell.grid import grain_axis, turned_block

# Planes are told in hundred-thousandths of a cell: there they are whole numbers at every swell and dampness.
UNIT = 100000

MOST_DAMP = 200


def held_plane(put, corner, axis):
    block = turned_block(put)
    if ((corner >> axis) & 1) == 1:
        return block.high[axis]
    return block.low[axis]


def cell_length(put, swell, axis, m):
    if grain_axis(put) == axis:
        return UNIT
    return UNIT + swell * m


def plane_at(put, swell, corner, axis, t, m):
    fixed = held_plane(put, corner, axis)
    return fixed * UNIT + (t - fixed) * cell_length(put, swell, axis, m)

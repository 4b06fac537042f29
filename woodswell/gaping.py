"""How far the faces of cells that lie beside one another at dampness 0 come apart."""

from woodswell.damp import plane_at
from woodswell.grid import cell_rows, facing_planes


def face_of(piece, axis, t, m):
    return plane_at(piece.put, piece.swell, piece.held, axis, t, m)


def gaps_above(lower, upper, axis, m):
    planes = facing_planes(cell_rows(lower.put), cell_rows(upper.put), axis)
    return [face_of(upper, axis, t, m) - face_of(lower, axis, t, m) for t in planes]


# Below 0 where the faces are pressed into one another. Either of the two may be the lower, at some places the one and
# at others the other.
def gaps_between(one, other, axis, m):
    return gaps_above(one, other, axis, m) + gaps_above(other, one, axis, m)

"""The calls: each answers one list of whole numbers."""

from woodswell.binding import Piece, first_bound, first_pair, may_bind
from woodswell.damp import MOST_DAMP, plane_at
from woodswell.gaping import gaps_between
from woodswell.grid import first_overlap
from woodswell.worktext import read_work

MOST_BYTES = 65536
MOST_TOLD = 32
MOST_SWELL = 100
MOST_HELD = 7
MOST_AXIS = 2
MOST_PLACE = 64
MOST_DRY = 1


class Case:
    def __init__(self, puts, refusal):
        self.puts = puts
        self.refusal = refusal


def is_too_long(text, swells, held):
    return len(text) > MOST_BYTES or len(swells) > MOST_TOLD or len(held) > MOST_TOLD


def fits_puts(puts, told, most):
    return len(told) == len(puts) and all([number <= most for number in told])


def is_dampness(m):
    return -MOST_DAMP <= m <= MOST_DAMP


# own_right: whether the call's own numbers are within their bounds; that is asked only behind -2, -6 and -9.
def read_case(text, swells, held, own_right):
    if is_too_long(text, swells, held):
        return Case([], [-2])
    made = read_work(text)
    if len(made.fault) > 0:
        return Case([], [-6] + made.fault)
    pair = first_overlap(made.puts)
    if len(pair) > 0:
        return Case([], [-9] + pair)
    if not own_right or not fits_puts(made.puts, swells, MOST_SWELL) or not fits_puts(made.puts, held, MOST_HELD):
        return Case([], [-1])
    return Case(made.puts, [])


def judge(text, swells, held):
    case = read_case(text, swells, held, True)
    if len(case.refusal) > 0:
        return case.refusal
    return [0]


def plane(i, axis, t, m, text, swells, held):
    own_right = axis <= MOST_AXIS and t <= MOST_PLACE and is_dampness(m)
    case = read_case(text, swells, held, own_right)
    if len(case.refusal) > 0:
        return case.refusal
    if i >= len(case.puts):
        return [-4]
    return [0, plane_at(case.puts[i], swells[i], held[i], axis, t, m)]


def pair_refusal(case, i, j):
    if len(case.refusal) > 0:
        return case.refusal
    if i >= len(case.puts) or j >= len(case.puts):
        return [-4]
    if i == j:
        return [-8]
    return []


def pieces_of(case, numbers, swells, held):
    return [Piece(case.puts[k], swells[k], held[k]) for k in numbers]


def binds(i, j, m, text, swells, held):
    case = read_case(text, swells, held, is_dampness(m))
    refusal = pair_refusal(case, i, j)
    if len(refusal) > 0:
        return refusal
    pieces = pieces_of(case, [i, j], swells, held)
    if may_bind(pieces[0], pieces[1], m, m):
        return [1]
    return [0]


def way_of(dry):
    if dry == 1:
        return -1
    return 1


def first(i, j, dry, text, swells, held):
    case = read_case(text, swells, held, dry <= MOST_DRY)
    refusal = pair_refusal(case, i, j)
    if len(refusal) > 0:
        return refusal
    pieces = pieces_of(case, [i, j], swells, held)
    m = first_bound(pieces[0], pieces[1], way_of(dry), MOST_DAMP)
    if m == 0:
        return [-3]
    return [0, m]


def work(dry, text, swells, held):
    case = read_case(text, swells, held, dry <= MOST_DRY)
    if len(case.refusal) > 0:
        return case.refusal
    pieces = pieces_of(case, list(range(len(case.puts))), swells, held)
    told = first_pair(pieces, way_of(dry))
    if len(told) == 0:
        return [-3]
    return [0] + told


def gap(i, j, axis, m, text, swells, held):
    case = read_case(text, swells, held, axis <= MOST_AXIS and is_dampness(m))
    refusal = pair_refusal(case, i, j)
    if len(refusal) > 0:
        return refusal
    pieces = pieces_of(case, [i, j], swells, held)
    gaps = gaps_between(pieces[0], pieces[1], axis, m)
    if len(gaps) == 0:
        return [-3]
    return [0, max(gaps)]

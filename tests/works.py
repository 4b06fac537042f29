"""Works that are made by dice, the same at every run."""

from tests import reference
from tests.asking import WAYS, to_bytes
from tests.turning import own_axes

ODD_NUMBERS = ["0", "1", "16", "17", "48", "49", "00", "01", "", "x", "99999999999999999999", "-1"]


def some_part(dice, name, lengths=None):
    lengths = lengths or [dice.choice((1, 2, 3, 5, dice.randint(1, 16))) for own in range(3)]
    lines = ["part {} {} {} {} {}".format(name, *lengths, dice.choice("xyz"))]
    for cut in range(dice.choice((0, 0, 1, 2, 5))):
        start = [dice.randrange(length) for length in lengths]
        sides = [dice.randint(1, lengths[own] - start[own]) for own in range(3)]
        lines.append("cut {} {} {} {} {} {}".format(*start, *sides))
    return lines


def some_put(dice, name, corner):
    return "put {} {} {} {} {}".format(name, dice.choice(WAYS), *corner)


def some_work(dice):
    names = [f"p{k}" for k in range(dice.randint(1, 4))]
    lines = [line for name in names for line in some_part(dice, name)]
    reach = dice.choice((4, 12, 48))
    for put in range(dice.randint(0, 5)):
        lines.append(some_put(dice, dice.choice(names), [dice.randint(0, reach) for axis in range(3)]))
    return lines


def spoilt(dice, lines):
    lines = list(lines)
    k = dice.randrange(len(lines))
    harm = dice.randrange(5)
    if harm == 0:
        words = lines[k].split(" ")
        words[dice.randrange(len(words))] = dice.choice(ODD_NUMBERS)
        lines[k] = " ".join(words)
    elif harm == 1:
        lines.insert(dice.randrange(len(lines) + 1), lines[k])
    elif harm == 2:
        lines.pop(k)
    elif harm == 3:
        dice.shuffle(lines)
    else:
        lines[k] = lines[k].replace(" ", dice.choice(("", "  ", "\t", " 1 ")), 1)
    return lines


def some_text(dice):
    lines = some_work(dice)
    if dice.random() < 0.3:
        lines = spoilt(dice, lines)
    text = to_bytes("".join(line + "\n" for line in lines))
    if dice.random() < 0.03:
        text = text[:dice.randrange(len(text) + 1)]
    if dice.random() < 0.03 and text:
        text[dice.randrange(len(text))] = dice.randrange(256)
    return text, sum(1 for line in lines if line.startswith("put "))


def told(dice, count, most):
    numbers = [dice.randint(0, most) for put in range(count)]
    if dice.random() < 0.05:
        numbers.append(0)
    if dice.random() < 0.05 and numbers:
        numbers[dice.randrange(len(numbers))] = dice.choice((most, most + 1, 4294967295))
    return numbers


def near_lines(dice):
    """Two parts with cuts, put near one another: their blocks touch, or lie within one another, or nearly."""
    lines = []
    puts = []
    middle = dice.randint(16, 30)
    reach = dice.choice((2, 4, 8))
    for name in ("a", "b"):
        lengths = [dice.choice((1, 2, 3, dice.randint(1, 16))) for own in range(3)]
        lines += some_part(dice, name, lengths)
        puts.append(some_put(dice, name, [middle + dice.randint(-reach, reach) for axis in range(3)]))
    return lines + puts


def plug_lines(dice):
    """A block with a hole, and another in the hole, tight or with room, turned in some way."""
    sides = [dice.randint(3, 16) for axis in range(3)]
    start = [dice.randrange(side - 1) for side in sides]
    hole = [dice.randint(1, sides[axis] - start[axis]) for axis in range(3)]
    room = [dice.choice((0, 0, 1, 2)) if hole[axis] > 2 else 0 for axis in range(3)]
    before = [dice.randint(0, room[axis]) for axis in range(3)]
    return hole_and_plug(dice, sides, start, hole, room, before)


def roomy_lines(dice):
    """A large block with a large hole, and another in the hole that touches it nowhere."""
    sides = [dice.randint(10, 16) for axis in range(3)]
    start = [dice.randint(1, 3) for axis in range(3)]
    hole = [sides[axis] - start[axis] - 1 for axis in range(3)]
    room = [dice.randint(2, 4) for axis in range(3)]
    return hole_and_plug(dice, sides, start, hole, room, [dice.randint(1, room[axis] - 1) for axis in range(3)])


def hole_and_plug(dice, sides, start, hole, room, before):
    corner = [dice.randint(8, 20) for axis in range(3)]
    plug = [hole[axis] - room[axis] for axis in range(3)]
    place = [corner[axis] + start[axis] + before[axis] for axis in range(3)]
    ways = dice.choice(WAYS)
    axes = own_axes(ways)
    return ["part a {} {} {} {}".format(*sides, dice.choice("xyz")),
            "cut {} {} {} {} {} {}".format(*start, *hole),
            "part b {} {} {} {}".format(*(plug[axis] for axis in axes), dice.choice("xyz")),
            "put a rb {} {} {}".format(*corner),
            "put b {} {} {} {}".format(ways, *place)]


def close_work(dice):
    """A work whose puts are close to one another and overlap nowhere: its text, swells and held corners."""
    while True:
        lines = dice.choice((near_lines, plug_lines, roomy_lines))(dice)
        if dice.random() < 0.3:
            lines.append(some_put(dice, "a", [dice.randint(10, 30) for axis in range(3)]))
        text = to_bytes("".join(line + "\n" for line in lines))
        puts = sum(1 for line in lines if line.startswith("put "))
        swells = [dice.choice((0, 1, 100, dice.randint(0, 100))) for put in range(puts)]
        held = [dice.randrange(8) for put in range(puts)]
        if reference.judge(text, swells, held) == [0]:
            return text, swells, held


def named_and_moved(lines, number, moves):
    """The lines with names of their own, put elsewhere."""
    made = []
    for line in lines:
        words = line.split(" ")
        if words[0] != "cut":
            words[1] += str(number)
        if words[0] == "put":
            words[3:] = [str(int(word) + move) for word, move in zip(words[3:], moves)]
        made.append(" ".join(words))
    return made


def rooms_work(dice):
    """Several large blocks with room in them and a block in each room, all far from one another; some are alike."""
    places = dice.sample([(-8, -8, 0), (22, -8, 0), (-8, 22, 0), (22, 22, 0)], dice.randint(2, 4))
    lines, told_of = [], {}
    for number, moves in enumerate(places):
        if number == 0 or dice.random() < 0.6:
            room = roomy_lines(dice)
            swells = [dice.choice((0, 100, dice.randint(20, 100))) for put in range(2)]
            held = [dice.randrange(8) for put in range(2)]
        lines += named_and_moved(room, number, moves)
        for name, swell, corner in zip("ab", swells, held):
            told_of[f"{name}{number}"] = (swell, corner)
    puts = [line for line in lines if line.startswith("put ")]
    dice.shuffle(puts)
    numbers = [told_of[line.split(" ")[1]] for line in puts]
    text = "".join(line + "\n" for line in [line for line in lines if line not in puts] + puts)
    return to_bytes(text), [swell for swell, corner in numbers], [corner for swell, corner in numbers]


def lies_free(lines, puts):
    """Whether puts overlap nowhere."""
    return reference.judge(to_bytes("".join(line + "\n" for line in lines)), [0] * puts, [0] * puts) == [0]


def crowd_work(dice):
    """Several small parts with cuts, put in a small room; they overlap nowhere, and many touch one another."""
    names = [f"p{k}" for k in range(dice.randint(1, 4))]
    lines = []
    for name in names:
        lines += some_part(dice, name, [dice.choice((1, 2, dice.randint(1, 7))) for own in range(3)])
    puts = 0
    for attempt in range(dice.randint(4, 16)):
        more = lines + [some_put(dice, dice.choice(names), [dice.randint(20, 25) for axis in range(3)])]
        if lies_free(more, puts + 1):
            lines = more
            puts += 1
    swells = [dice.choice((0, 0, 1, dice.randint(0, 100))) for put in range(puts)]
    return to_bytes("".join(line + "\n" for line in lines)), swells, [dice.randrange(8) for put in range(puts)]


def corner_low(place, corner, lengths):
    """The lowest corner of a block of which the corner lies at the place."""
    return [place[axis] - (lengths[axis] if corner >> axis & 1 else 0) for axis in range(3)]


def from_corner(corner, lengths, start, sides):
    """A cut of a block: start tells how far from its corner the cut begins on each axis."""
    first = [lengths[axis] - start[axis] - sides[axis] if corner >> axis & 1 else start[axis] for axis in range(3)]
    return "cut {} {} {} {} {} {}".format(*first, *sides)


def nested_pair(dice, number, place, corner, grain):
    """A block with a hole, and what fills it, of a block with its corner at the same place: their lines and puts."""
    sides = [dice.randint(2, 10) for axis in range(3)]
    start = [dice.randrange(side) for side in sides]
    hole = [dice.randint(1, sides[axis] - start[axis]) for axis in range(3)]
    reach = [start[axis] + hole[axis] for axis in range(3)]
    lines = ["part a{} {} {} {} {}".format(number, *sides, "xyz"[grain]), from_corner(corner, sides, start, hole),
             "part b{} {} {} {} {}".format(number, *reach, "xyz"[grain])]
    for axis in range(3):
        if start[axis] > 0:
            layer = [start[k] if k == axis else reach[k] for k in range(3)]
            lines.append(from_corner(corner, reach, (0, 0, 0), layer))
    return lines, ["put {}{} rb {} {} {}".format(name, number, *corner_low(place, corner, lengths))
                   for name, lengths in (("a", sides), ("b", reach))]


def turned_one(dice, number, place, corner, grain):
    """A part with cuts, turned some way, its corner at the place: its lines and its put."""
    ways = dice.choice(WAYS)
    axes = own_axes(ways)
    lengths = [dice.choice((1, 2, 3, dice.randint(1, 9))) for own in range(3)]
    lines = some_part(dice, f"t{number}", lengths)
    lines[0] = lines[0][:-1] + "xyz"[axes.index(grain)]
    low = corner_low(place, corner, [lengths[axes.index(axis)] for axis in range(3)])
    return lines, ["put t{} {} {} {} {}".format(number, ways, *low)]


def one_place_work(dice):
    """Puts that are all held in one place and swell alike, their grain along one axis; some lie in others' cuts."""
    place = [dice.randint(16, 32) for axis in range(3)]
    grain = dice.randrange(3)
    lines, puts, held = [], [], []
    for number in range(dice.randint(4, 10)):
        corner = dice.randrange(8)
        more, more_puts = dice.choice((nested_pair, turned_one))(dice, number, place, corner, grain)
        if lies_free(lines + more + puts + more_puts, len(puts + more_puts)):
            lines += more
            puts += more_puts
            held += [corner] * len(more_puts)
    swell = dice.choice((1, 100, dice.randint(0, 100)))
    return to_bytes("".join(line + "\n" for line in lines + puts)), [swell] * len(puts), held

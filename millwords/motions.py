"""The motions of a line: fast and straight ones, arcs and holes."""

from millwords.state import HOLES
from millwords.words import LineCannotBe

AXES = "XYZ"
CENTRES = "IJK"

ARCS = (2, 3)

# Of each plane its two axes in their order, then the one across.
PLANES = {17: (0, 1, 2), 18: (2, 0, 1), 19: (1, 2, 0)}

MOST_DIFFERENCE = 200
MOST_PECKS = 1000
ABOVE_LAST_PECK = 25000


def fast_move(place):
    return (0, place[0], place[1], place[2], 0, 0, 0, 0)


def straight_move(place, feed):
    return (1, place[0], place[1], place[2], feed, 0, 0, 0)


def other_move(kind, first, second):
    return (kind, first, second, 0, 0, 0, 0, 0)


def motion_moves(machine, words):
    before = machine.motion
    machine.motion = words.codes.get("motion", before)
    leads = words.tells_one_of(AXES)
    if words.codes.get("special") == 53 and not (leads and machine.motion in (0, 1)):
        raise LineCannotBe("G53 goes with 0 or 1 and an axis")
    if machine.motion in HOLES:
        return holes_moves(machine, words, before)
    if machine.motion in ARCS and (leads or tells_circle(words)):
        return arc_moves(machine, words)
    if not leads:
        return []
    if machine.motion == 80:
        raise LineCannotBe("no motion that an axis could lead")
    return line_moves(machine, words)


def tells_circle(words):
    return "motion" in words.codes and words.tells_one_of(CENTRES)


def line_moves(machine, words):
    machine.place = end_place(machine, words)
    if machine.motion == 0:
        return [fast_move(machine.place)]
    require_feed(machine)
    return [straight_move(machine.place, machine.feed)]


def require_feed(machine):
    if machine.feed == 0:
        raise LineCannotBe("no feed")


def end_place(machine, words):
    return tuple([end_on_axis(machine, words, axis) for axis in (0, 1, 2)])


def end_on_axis(machine, words, axis):
    if AXES[axis] not in words.numbers:
        return machine.place[axis]
    told = machine.length(words.numbers[AXES[axis]])
    if words.codes.get("special") == 53:
        return told
    if machine.steps:
        return machine.place[axis] + told
    return machine.program_zero(axis) + told


# A centre of which no word is told lies where it is: so it is refused with
# those whose distance is 0.
def arc_moves(machine, words):
    require_feed(machine)
    axes = PLANES[machine.plane]
    if CENTRES[axes[2]] in words.numbers:
        raise LineCannotBe("a centre across the plane")
    centre = (centre_on_axis(machine, words, axes[0]), centre_on_axis(machine, words, axes[1]))
    start = machine.place
    end = end_place(machine, words)
    from_start = square_of_distance(centre, start[axes[0]], start[axes[1]])
    to_end = square_of_distance(centre, end[axes[0]], end[axes[1]])
    if from_start == 0 or not roots_are_near(from_start, to_end):
        raise LineCannotBe("no arc leads there")
    machine.place = end
    return [(machine.motion, end[0], end[1], end[2], machine.feed, machine.plane, centre[0], centre[1])]


def centre_on_axis(machine, words, axis):
    return machine.place[axis] + machine.length(words.numbers.get(CENTRES[axis], 0))


def square_of_distance(centre, first, second):
    return (first - centre[0]) ** 2 + (second - centre[1]) ** 2


# The distances themselves need not be whole. So, with a the greater square
# and b the lesser: a <= (root of b + d) ** 2 is squared once more.
def roots_are_near(one, another):
    greater = max(one, another)
    lesser = min(one, another)
    rest = greater - lesser - MOST_DIFFERENCE ** 2
    return rest <= 0 or rest ** 2 <= 4 * MOST_DIFFERENCE ** 2 * lesser


def holes_moves(machine, words, before):
    if before not in HOLES:
        machine.begin_holes()
    take_hole_numbers(machine, words)
    if not words.tells_one_of(AXES):
        return []
    require_hole(machine)
    x = end_on_axis(machine, words, 0)
    y = end_on_axis(machine, words, 1)
    moves = [fast_move((x, y, machine.place[2])), fast_move((x, y, machine.level))]
    if machine.motion == 83:
        moves.extend(peck_moves(machine, x, y))
    else:
        moves.append(straight_move((x, y, machine.depth), machine.feed))
    if machine.motion == 82:
        moves.append(other_move(4, machine.wait, 0))
    machine.place = (x, y, max(machine.height, machine.level))
    moves.append(fast_move(machine.place))
    return moves


def take_hole_numbers(machine, words):
    numbers = words.numbers
    if "R" in numbers:
        base = machine.height if machine.steps else machine.program_zero(2)
        machine.level = base + machine.length(numbers["R"])
    if "Z" in numbers:
        machine.depth = machine.program_zero(2) + machine.length(numbers["Z"])
    if "Q" in numbers:
        machine.peck = machine.length(numbers["Q"])
    if "P" in numbers:
        machine.wait = numbers["P"]


def require_hole(machine):
    require_feed(machine)
    if machine.plane != 17:
        raise LineCannotBe("holes in another plane")
    if machine.level is None or machine.depth is None:
        raise LineCannotBe("a hole without level or depth")
    if machine.level < machine.depth:
        raise LineCannotBe("a level below the depth")


def peck_moves(machine, x, y):
    level = machine.level
    depth = machine.depth
    peck = machine.peck
    if peck is None or peck <= 0 or level - depth > MOST_PECKS * peck:
        raise LineCannotBe("no such peck")
    back = fast_move((x, y, level))
    z = max(level - peck, depth)
    moves = [straight_move((x, y, z), machine.feed)]
    while z != depth:
        moves.append(back)
        moves.append(fast_move((x, y, min(z + ABOVE_LAST_PECK, level))))
        z = max(z - peck, depth)
        moves.append(straight_move((x, y, z), machine.feed))
    return moves

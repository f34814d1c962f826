"""What a line does, in its order."""

from millwords.motions import AXES, motion_moves, other_move
from millwords.state import INCHES, MILLIMETRES
from millwords.words import LineCannotBe, ONE

FIRST_ORIGIN = 54


def moves_of_line(machine, words):
    settle(machine, words)
    moves = side_moves(words)
    moves.extend(main_moves(machine, words))
    if "stop" in words.codes:
        moves.append(other_move(8, words.codes["stop"], 0))
    return moves


def ends_program(words):
    return words.codes.get("stop") in (2, 30)


def settle(machine, words):
    codes = words.codes
    if "unit" in codes:
        machine.unit = INCHES if codes["unit"] == 20 else MILLIMETRES
    if "plane" in codes:
        machine.plane = codes["plane"]
    if "origin" in codes:
        machine.origin = codes["origin"] - FIRST_ORIGIN
    if "way" in codes:
        machine.steps = codes["way"] == 91
    if "F" in words.numbers:
        machine.feed = machine.length(words.numbers["F"])


def side_moves(words):
    codes = words.codes
    moves = []
    if "T" in words.numbers or "tool" in codes:
        tool = words.numbers["T"] // ONE if "T" in words.numbers else -1
        moves.append(other_move(5, tool, 1 if "tool" in codes else 0))
    if "S" in words.numbers or "spindle" in codes:
        moves.append(other_move(6, codes.get("spindle", -1), words.numbers.get("S", -1)))
    if "cooling" in codes:
        moves.append(other_move(7, codes["cooling"], 0))
    return moves


def main_moves(machine, words):
    special = words.codes.get("special")
    if special == 4:
        return [wait_move(words)]
    if special == 92:
        put_off_places(machine, words)
        return []
    return motion_moves(machine, words)


def wait_move(words):
    if "P" not in words.numbers or words.tells_one_of(AXES) or "motion" in words.codes:
        raise LineCannotBe("G4 goes with P, without an axis and a motion")
    return other_move(4, words.numbers["P"], 0)


def put_off_places(machine, words):
    if not words.tells_one_of(AXES) or "motion" in words.codes:
        raise LineCannotBe("G92 goes with an axis, without a motion")
    machine.put_off = tuple([put_off_on_axis(machine, words, axis) for axis in (0, 1, 2)])


def put_off_on_axis(machine, words, axis):
    if AXES[axis] not in words.numbers:
        return machine.put_off[axis]
    told = machine.length(words.numbers[AXES[axis]])
    return machine.place[axis] - machine.origins[machine.origin][axis] - told

"""The calls on one machine, one behind another, and their answers."""

from millwords.lines import ends_program, moves_of_line
from millwords.state import Machine
from millwords.words import LineCannotBe, part_looked_at, read_words, split_lines

CLEAR = 1
ORIGIN = 2
RUN = 3

ORIGINS = 6
MOST_ORIGIN = 1000000000000
MOST_MOVES = 65536
MOVE_SIZE = 1152921504606846976
RUN_REFUSED = 4000000
MORE_THAN_MOST = 2000000


class Mill:
    def __init__(self):
        self.machine = Machine()

    def gc_clear(self):
        self.machine = Machine()
        return [0]

    def gc_origin(self, k, p):
        if k < 0 or k >= ORIGINS or any([abs(number) > MOST_ORIGIN for number in p]):
            return [-1]
        self.machine.origins[k] = (p[0], p[1], p[2])
        return [0]

    # The lines work on a twin, so that a refusal leaves the machine as it was.
    def gc_run(self, skip, most, text):
        if skip not in (0, 1) or most < 0 or most > MOST_MOVES:
            return [-RUN_REFUSED]
        twin = self.machine.twin()
        answer = [0]
        line_number = 0
        for line in split_lines(text):
            line_number += 1
            try:
                words = read_words(part_looked_at(line, skip))
                moves = moves_of_line(twin, words)
            except LineCannotBe:
                return [-line_number]
            answer[0] += len(moves)
            if answer[0] > most:
                return [-line_number - MORE_THAN_MOST]
            numbers = numbers_of(moves)
            if has_large(numbers):
                return [-line_number]
            answer.extend(numbers)
            if ends_program(words):
                break
        self.machine = twin
        return answer

    def gc_place(self):
        place = self.machine.place
        return [self.machine.motion, place[0], place[1], place[2]]


def numbers_of(moves):
    numbers = []
    for move in moves:
        numbers.extend(move)
    return numbers


def has_large(numbers):
    return max(numbers, default=0) >= MOVE_SIZE or min(numbers, default=0) <= -MOVE_SIZE


def answers(calls):
    mill = Mill()
    given = []
    at = 0
    while at < len(calls):
        answer = answer_of_call(mill, calls, at)
        given.append(len(answer))
        given.extend(answer)
        at = past_call(calls, at)
    return given


def answer_of_call(mill, calls, at):
    if calls[at] == CLEAR:
        return mill.gc_clear()
    if calls[at] == ORIGIN:
        return mill.gc_origin(calls[at + 1], calls[at + 3:past_call(calls, at)])
    if calls[at] == RUN:
        return mill.gc_run(calls[at + 1], calls[at + 2], calls[at + 4:past_call(calls, at)])
    return mill.gc_place()


def past_call(calls, at):
    if calls[at] == ORIGIN:
        return at + 3 + calls[at + 2]
    if calls[at] == RUN:
        return at + 4 + calls[at + 3]
    return at + 1

"""Reads the text of a program: its lines, and the words of a line."""

TAB = 9
LINE_FEED = 10
RETURN = 13
BLANK = 32
PERCENT = 37
NOTE_BEGINS = 40
NOTE_ENDS = 41
PLUS = 43
MINUS = 45
POINT = 46
SLASH = 47
ZERO = 48
NINE = 57
SEMICOLON = 59

MOST_BEFORE_POINT = 6
MOST_BEHIND_POINT = 4
ONE = 10000

LETTERS = "GMXYZIJKRQPFSTN"
NEVER_BELOW_ZERO = "FSTPN"

G_GROUPS = {
    0: "motion", 1: "motion", 2: "motion", 3: "motion",
    80: "motion", 81: "motion", 82: "motion", 83: "motion",
    17: "plane", 18: "plane", 19: "plane",
    20: "unit", 21: "unit",
    54: "origin", 55: "origin", 56: "origin", 57: "origin", 58: "origin", 59: "origin",
    90: "way", 91: "way",
    4: "special", 53: "special", 92: "special",
}
M_GROUPS = {
    6: "tool",
    3: "spindle", 4: "spindle", 5: "spindle",
    7: "cooling", 8: "cooling", 9: "cooling",
    0: "stop", 1: "stop", 2: "stop", 30: "stop",
}


class LineCannotBe(ValueError):
    pass


# What a line tells: the numbers of its letters in ten thousandths, and of
# each group of G and M the code that stands in the line.
class Words:
    def __init__(self):
        self.numbers = {}
        self.codes = {}

    def take(self, letter, number):
        if letter == "G" or letter == "M":
            self.take_code(letter, number)
        else:
            self.take_number(letter, number)

    def take_number(self, letter, number):
        if letter in self.numbers:
            raise LineCannotBe("a letter twice")
        if number < 0 and letter in NEVER_BELOW_ZERO:
            raise LineCannotBe("a number below 0")
        self.numbers[letter] = number

    def take_code(self, letter, number):
        if number % ONE != 0:
            raise LineCannotBe("a code that is not whole")
        code = number // ONE
        group = G_GROUPS.get(code) if letter == "G" else M_GROUPS.get(code)
        if group is None:
            raise LineCannotBe("a code of no group")
        if group in self.codes:
            raise LineCannotBe("two codes of one group")
        self.codes[group] = code

    def tells_one_of(self, letters):
        return any([letter in self.numbers for letter in letters])


def split_lines(text):
    lines = []
    line = []
    for byte in text:
        if byte == LINE_FEED:
            lines.append(line)
            line = []
        else:
            line.append(byte)
    lines.append(line)
    return lines


# A line that isn't looked at is like an empty one: that one does nothing.
def part_looked_at(line, skip):
    first = past_blanks(line, 0)
    if first == len(line) or line[first] == PERCENT:
        return []
    if line[first] != SLASH:
        return line
    return [] if skip == 1 else line[first + 1:]


def read_words(line):
    words = Words()
    at = 0
    while at < len(line) and line[at] != SEMICOLON:
        if line[at] in (BLANK, TAB, RETURN):
            at += 1
        elif line[at] == NOTE_BEGINS:
            at = past_note(line, at)
        else:
            letter = letter_of(line[at])
            start = past_blanks(line, at + 1)
            at = past_number(line, start)
            words.take(letter, ten_thousandths(line[start:at]))
    return words


def letter_of(byte):
    for letter in LETTERS:
        if byte == ord(letter) or byte == ord(letter.lower()):
            return letter
    raise LineCannotBe("a byte that may not stand there")


def past_blanks(line, at):
    while at < len(line) and line[at] in (BLANK, TAB):
        at += 1
    return at


def past_note(line, at):
    while at < len(line):
        if line[at] == NOTE_ENDS:
            return at + 1
        at += 1
    raise LineCannotBe("a note without its end")


def past_digits(line, at):
    while at < len(line) and ZERO <= line[at] <= NINE:
        at += 1
    return at


def past_number(line, at):
    if at < len(line) and line[at] in (PLUS, MINUS):
        at += 1
    end = past_digits(line, at)
    before = end - at
    behind = 0
    if end < len(line) and line[end] == POINT:
        first = end + 1
        end = past_digits(line, first)
        behind = end - first
    if before > MOST_BEFORE_POINT or behind > MOST_BEHIND_POINT or before + behind == 0:
        raise LineCannotBe("a number of another form")
    return end


def ten_thousandths(number):
    value = 0
    unit = ONE
    behind_point = False
    for byte in number:
        if byte == POINT:
            behind_point = True
        elif ZERO <= byte <= NINE:
            value = value * 10 + byte - ZERO
            if behind_point:
                unit = unit // 10
    if number[0] == MINUS:
        value = -value
    return value * unit

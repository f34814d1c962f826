"""Builds lists of calls, takes their answers apart, and holds the checks that many tests share."""

import unittest

from millwords.machine import answers

MM = 100000
INCH = 2540000

CLEAR = [1]
PLACE = [4]


def origin(k, *p):
    return [2, k, len(p), *p]


def run(text, skip=0, most=65536):
    data = list(text.encode("latin-1")) if isinstance(text, str) else list(text)
    return [3, skip, most, len(data), *data]


def ask(*calls):
    given = answers([number for call in calls for number in call])
    told = []
    at = 0
    while at < len(given):
        told.append(given[at + 1:at + 1 + given[at]])
        at += 1 + given[at]
    assert at == len(given) and len(told) == len(calls), (given, calls)
    return told


def last(*calls):
    return ask(CLEAR, *calls)[-1]


def move(*numbers):
    return list(numbers) + [0] * (8 - len(numbers))


def run_answer(*moves):
    return [len(moves)] + [number for one in moves for number in move(*one)]


# Together these tell all that the machine keeps: each is asked on its own,
# behind the same calls.
PROBES = (
    [PLACE],
    [run("X1Y2Z3")],
    [run("G0X1Y2Z3\nX1Y2Z3")],
    [run("G1X1")],
    [run("G2F7I1")],
    [run("G2F7J1")],
    [run("G2F7K1")],
    [run("X5R1Z-1")],
    [run("X5R1")],
    [run("X5Z-1")],
    [run("G82X5")],
    [run("G83X5")],
    [run("G82X5F7")],
    [run("G83X5F7")],
    [run("G81G91R1Z-1X5F7")],
    [run("G90G0X0Y0Z0\nG54X0Y0Z0\nG55X0Y0Z0\nG56X0Y0Z0\nG57X0Y0Z0\nG58X0Y0Z0\nG59X0Y0Z0")],
    [*[origin(k, 10 + k, 20 + k, 30 + k) for k in range(6)], run("G90G0X0Y0Z0")],
)


def all_told(*calls):
    return [last(*calls, *probe) for probe in PROBES]


class Case(unittest.TestCase):
    maxDiff = 4000

    def moves(self, text, *moves, before=(), skip=0):
        self.assertEqual(last(*before, run(text, skip)), run_answer(*moves), text)

    def refused(self, text, answer=-1, before=(), skip=0, most=65536):
        call = run(text, skip, most)
        self.assertEqual(last(*before, call), [answer], text)
        self.leaves_machine(call, before)

    def leaves_machine(self, call, before=()):
        self.assertEqual(all_told(*before, call), all_told(*before), call)

    def allowed(self, *texts):
        for text in texts:
            with self.subTest(text=text):
                self.assertGreaterEqual(last(run(text))[0], 0, text)

    def refused_each(self, *texts):
        for text in texts:
            with self.subTest(text=text):
                self.refused(text)

"""The interface: lists of calls, their answers, and what may not happen to either."""

import contextlib
import io
import os
import subprocess
import sys
import time

from helper import CLEAR, MM, PLACE, Case, ask, origin, run

import millwords.machine
from millwords.machine import answers

GOOD_TIME = 30
SEVERAL = [*CLEAR, *origin(1, 7, 8, 9), *run("G55X1\nM3"), *PLACE, *run("A"), *origin(6, 0, 0, 0), *run("G1F1"),
           *PLACE, *CLEAR, *PLACE]


class Unchanging(list):
    def refuse(self, *given, **named):
        raise AssertionError("what is handed in is changed")

    append = extend = insert = pop = remove = clear = sort = reverse = refuse
    __setitem__ = __delitem__ = __iadd__ = __imul__ = refuse


class Interface(Case):
    def test_several_calls(self):
        self.assertEqual(answers(list(SEVERAL)), [
            1, 0,
            1, 0,
            17, 2, 0, MM + 7, 0, 0, 0, 0, 0, 0, 6, 3, -1, 0, 0, 0, 0, 0,
            4, 0, MM + 7, 0, 0,
            1, -1,
            1, -1,
            1, 0,
            4, 1, MM + 7, 0, 0,
            1, 0,
            4, 0, 0, 0, 0,
        ])

    def test_counts(self):
        self.assertEqual(answers([1]), [1, 0])
        self.assertEqual(answers([1, 4]), [1, 0, 4, 0, 0, 0, 0])
        self.assertEqual(answers([1, 3, 0, 0, 0]), [1, 0, 1, 0])
        self.assertEqual(answers([1, 3, 0, 1, 2, 84, 49]), [1, 0, 9, 1, 5, 1, 0, 0, 0, 0, 0, 0])
        self.assertEqual(answers([1, 3, 2, 1, 2, 84, 49]), [1, 0, 1, -4000000])
        self.assertEqual(answers([1, 3, 0, 0, 2, 84, 49]), [1, 0, 1, -2000001])
        self.assertEqual(answers([1, 2, 0, 3, 1, 2, 3]), [1, 0, 1, 0])

    def test_texts_may_look_like_calls(self):
        self.assertEqual(ask(CLEAR, run([1, 4, 3]), PLACE), [[0], [-1], [0, 0, 0, 0]])
        self.assertEqual(ask(CLEAR, run([40, 2, 3, 4, 41], skip=1), PLACE), [[0], [0], [0, 0, 0, 0]])

    def test_a_new_list_of_plain_whole_numbers(self):
        calls = list(SEVERAL)
        given = answers(calls)
        self.assertIs(type(given), list)
        self.assertIsNot(given, calls)
        self.assertEqual({type(number) for number in given}, {int})
        wide = answers([*CLEAR, *run("G20G18G91G1X1F1T1M6M3S1M8M1\nG83G17R1Z0Q1P1\nG80\nG3I1")])
        self.assertEqual({type(number) for number in wide}, {int})

    def test_what_is_handed_in_is_not_changed(self):
        calls = list(SEVERAL)
        answers(calls)
        self.assertEqual(calls, SEVERAL)
        self.assertEqual(answers(Unchanging(SEVERAL)), answers(SEVERAL))

    def test_nothing_is_kept(self):
        first = answers(list(SEVERAL))
        answers([*CLEAR, *origin(0, 5, 5, 5), *run("G20G91G18G1X1F1\nG92Y4\nG81R3")])
        self.assertEqual(answers(list(SEVERAL)), first)
        given = answers(list(SEVERAL))
        given.append(5)
        given[0] = 99
        self.assertEqual(answers(list(SEVERAL)), first)

    def test_it_prints_nothing(self):
        out = io.StringIO()
        with contextlib.redirect_stdout(out), contextlib.redirect_stderr(out):
            answers(list(SEVERAL))
        self.assertEqual(out.getvalue(), "")

    def test_it_draws_from_its_own_package_alone(self):
        code = ("import sys; before = set(sys.modules); import millwords.machine; "
                "print(sorted(n for n in set(sys.modules) - before if n.split('.')[0] != 'millwords'))")
        root = os.path.dirname(os.path.dirname(os.path.abspath(millwords.machine.__file__)))
        done = subprocess.run([sys.executable, "-c", code], cwd=root, capture_output=True, text=True, check=True)
        self.assertEqual(done.stdout.strip(), "[]")


class GoodTime(Case):
    def setUp(self):
        self.begin = time.monotonic()

    def tearDown(self):
        self.assertLess(time.monotonic() - self.begin, GOOD_TIME)

    def test_long_texts(self):
        for text in ("X1\n" * 5300, "\n" * 15990, " " * 15990, "(" + "a" * 15980 + ")", "(" * 15990, "()" * 7990,
                     ";" * 15990, "X" + " " * 15980 + "1", "G1F1" + "X1\n" * 5300, "M3\nS1\n" * 2600, "%\n" * 7990,
                     "X" + "1" * 15980, "N" * 15990, "\r" * 15990):
            with self.subTest(text=text[:9]):
                answer = ask(CLEAR, run(text))[1]
                self.assertIn(len(answer), (1, 1 + 8 * answer[0]))

    def test_long_text_has_all_its_moves(self):
        answer = ask(CLEAR, run("X1\n" * 5300))[1]
        self.assertEqual((answer[0], len(answer)), (5300, 1 + 8 * 5300))
        self.assertEqual(ask(CLEAR, run("X1\n" * 5300 + "A"))[1], [-5301])

    def test_many_calls(self):
        given = ask(CLEAR, *[run("G91X1Y1Z1T5M6")] * 298, PLACE)
        self.assertEqual(len(given), 300)
        self.assertEqual(given[-1], [0, 298 * MM, 298 * MM, 298 * MM])
        self.assertEqual(ask(CLEAR, *[PLACE] * 299)[-1], [0, 0, 0, 0])

    def test_many_moves(self):
        before = [CLEAR, run("G91F1G83R1Z0Q.001")]
        given = ask(*before, *[run("X0\n" * 14 + "A")] * 100)
        self.assertEqual(given[-1], [-15])
        given = ask(*before, *[run("X0\n" * 21)] * 19)
        self.assertEqual(given[-1][0], 21 * 3001)

"""Promise 3: the refusals of a run, which of them comes first, and the machine behind them."""

from helper import MM, PLACE, Case, all_told, last, move, origin, run, run_answer

from millwords.machine import Mill

SIZE = 2 ** 60
LOW = -2147483648
HIGH = 2147483647
HOLE = "G83F1X1R3Z0Q1"


class OfTheCall(Case):
    def test_skip(self):
        for skip in (-1, 2, 3, LOW, HIGH):
            for text in ("", "X1", "A"):
                with self.subTest(skip=skip, text=text):
                    self.refused(text, -4000000, skip=skip)
        for skip in (0, 1):
            self.moves("X1", (0, MM, 0, 0), skip=skip)

    def test_most(self):
        for most in (-1, 65537, LOW, HIGH):
            for text in ("", "X1", "A"):
                with self.subTest(most=most, text=text):
                    self.refused(text, -4000000, most=most)
        for most in (1, 65536):
            self.assertEqual(last(run("X1", most=most)), run_answer((0, MM, 0, 0)))
        self.assertEqual(last(run("", most=0)), [0])

    def test_both(self):
        self.refused("A", -4000000, skip=2, most=-1)

    def test_next_call_is_found(self):
        self.assertEqual(last(run("X1\nX2", skip=5), run("Y1")), run_answer((0, 0, MM, 0)))


class Most(Case):
    def test_at_above_and_below(self):
        text = "X1\nX2\nX3"
        self.assertEqual(last(run(text, most=4))[0], 3)
        self.assertEqual(last(run(text, most=3))[0], 3)
        self.refused(text, -2000003, most=2)
        self.refused(text, -2000002, most=1)
        self.refused(text, -2000001, most=0)

    def test_within_a_line(self):
        self.assertEqual(last(run(HOLE, most=10))[0], 10)
        self.refused(HOLE, -2000001, most=9)
        self.refused("\n\nX1T1\n" + HOLE, -2000004, most=11)
        self.assertEqual(last(run("\n\nX1T1\n" + HOLE, most=12))[0], 12)

    def test_every_kind_counts(self):
        for text in ("T1", "M6", "M3", "S1", "M7", "G4P1", "M0", "M2", "X1", "G1X1F1", "G2I1F1"):
            with self.subTest(text=text):
                self.assertEqual(last(run(text, most=1))[0], 1)
                self.refused(text, -2000001, most=0)

    def test_lines_without_moves_do_not(self):
        self.assertEqual(last(run("G1F1\nG92X1\n\n%\nG80\nN1", most=0)), [0])

    def test_lines_behind_the_end_do_not(self):
        self.assertEqual(last(run("M2\nX1", most=1))[0], 1)

    def test_it_counts_anew_in_each_run(self):
        self.assertEqual(last(run("X1\nX2", most=2), run("X1\nX2", most=2))[0], 2)

    def test_65536(self):
        before = [run("G91G83F1R1Z0Q.001")]
        self.assertEqual(last(*before)[0], 3001)
        full = "X0\n" * 21 + "T1\n" * (65536 - 21 * 3001)
        self.assertEqual(last(*before, run(full))[0], 65536)
        self.assertEqual(last(*before, run(full, most=65535)), [-2000000 - full.count("\n")])
        self.assertEqual(last(*before, run(full + "\nT1")), [-2000002 - full.count("\n")])


class First(Case):
    def test_a_line_that_cannot_be_comes_before_most(self):
        self.refused("T1M3G4", -1, most=0)
        self.refused("X1\nT1X1G80", -2, most=1)
        self.refused("G83F1X1R3Z0Q1A", -1, most=0)

    def test_the_first_line_counts(self):
        self.refused("X1\nX2\nA", -2000002, most=1)
        self.refused("A\nX1\nX2", -1, most=0)
        self.refused("\nX1\nA\nB", -3)


class Size(Case):
    def at(self, *place):
        mill = Mill()
        mill.machine.place = place
        mill.gc_run(0, 0, list(b"G91F1"))
        return mill

    def one(self, place, text, most=65536):
        return self.at(*place).gc_run(0, most, list(text.encode()))

    def test_on_each_axis(self):
        for axis in range(3):
            for sign in (1, -1):
                for motion in ("G0", "G1"):
                    with self.subTest(axis=axis, sign=sign, motion=motion):
                        text = "%s%s%d" % (motion, "XYZ"[axis], sign)
                        place = [0, 0, 0]
                        place[axis] = sign * (SIZE - 1 - MM)
                        answer = self.one(place, text)
                        self.assertEqual((answer[0], answer[2 + axis]), (1, sign * (SIZE - 1)))
                        place[axis] += sign
                        self.assertEqual(self.one(place, text), [-1])

    def test_centres(self):
        for text, axis in (("G2I1", 0), ("G2J1", 1), ("G18G2K1", 2), ("G18G2I1", 0), ("G19G2J1", 1), ("G19G2K1", 2)):
            with self.subTest(text=text):
                place = [0, 0, 0]
                place[axis] = SIZE - 1 - MM
                self.assertEqual(self.one(place, text)[0], 1)
                place[axis] += 1
                self.assertEqual(self.one(place, text), [-1])

    def test_levels(self):
        place = [0, 0, SIZE - 1 - MM]
        self.assertEqual(self.one(place, "G81R1Z0")[0], 4)
        place[2] += 1
        self.assertEqual(self.one(place, "G81R1Z0"), [-1])

    def test_later_lines(self):
        self.assertEqual(self.one([SIZE - 1 - MM, 0, 0], "X1\n\nX-1\nX1\nX.0001"), [-5])

    def test_only_moves_count(self):
        self.assertEqual(self.one([SIZE, 0, 0], "G1\nG92X1\nM3"), [1] + move(6, 3, -1))

    def test_most_comes_before_it(self):
        self.assertEqual(self.one([SIZE, 0, 0], "X1", most=0), [-2000001])
        self.assertEqual(self.one([SIZE, 0, 0], "X1", most=1), [-1])
        self.assertEqual(self.one([SIZE, 0, 0], "M3X1", most=1), [-2000001])
        self.assertEqual(self.one([SIZE, 0, 0], "M3X1A", most=1), [-1])

    def test_the_machine_is_as_it_was(self):
        mill = self.at(SIZE - 1 - MM, 0, 0)
        self.assertEqual(mill.gc_run(0, 9, list(b"G1X1Y1\nX1")), [-2])
        self.assertEqual(mill.gc_place(), [0, SIZE - 1 - MM, 0, 0])
        self.assertEqual(mill.gc_run(0, 9, list(b"X1")), [1] + move(0, SIZE - 1, 0, 0))

    def test_farthest_single_line(self):
        far = 999999 * MM * 254 // 10
        before = [origin(0, 10 ** 12, 0, 0)]
        self.assertEqual(last(*before, run("G20X999999")), run_answer((0, 10 ** 12 + far, 0, 0)))


class AsItWas(Case):
    changing = ("X1Y2Z3", "G1F3", "G1X1F3", "G2I1F3", "G18", "G19", "G20", "G91", "G55", "F5", "G92X1Y2Z3", "G80",
                "G81R1Q2P3", "G83F1X1R3Z0Q1P4", "G82X1R3Z0P4F1", "T1M6", "M3S1", "G53X1")
    befores = ((), (origin(0, 1, 2, 3), origin(1, 4, 5, 6), run("G92X7\nG1X1Y1Z9F2")),
               (run("F4Z9\nG83X1R3Z0Q1P5"),), (run("G20G91G56G19G80F3"),))

    def test_behind_a_line_that_cannot_be(self):
        for before in self.befores:
            state = all_told(*before)
            for text in self.changing:
                with self.subTest(before=before, text=text):
                    call = run(text + "\nA")
                    self.assertIn(last(*before, call), ([-2], [-1]))
                    self.assertEqual(all_told(*before, call), state)

    def test_behind_more_than_most(self):
        for before in self.befores:
            state = all_told(*before)
            for text in self.changing:
                with self.subTest(before=before, text=text):
                    call = run(text + "\nM3M8M1T1", most=3)
                    self.assertLess(last(*before, call)[0], 0)
                    self.assertEqual(all_told(*before, call), state)

    def test_behind_runs_that_are_done_it_is_not(self):
        for text in self.changing:
            if text not in ("T1M6", "M3S1"):
                with self.subTest(text=text):
                    self.assertNotEqual(all_told(run(text)), all_told())

    def test_several_refusals(self):
        before = [run("G1X1F1"), run("X2\nA"), run("G91X2", most=0), run("G55", skip=2), origin(6, 1, 1, 1)]
        self.assertEqual(last(*before, PLACE), [1, MM, 0, 0])
        self.moves("X3", (1, 3 * MM, 0, 0, MM), before=before)


class FromRunToRun(Case):
    def test_all_that_stays(self):
        text = ["G20G91G55F2", "G1X1", "G18Z1", "G2X2I1", "G92X5Y5Z5", "G90", "G80", "G17G81R9P1", "G83Z1Q3X1", "G21",
                "Y3", "G4P3", "G54", "G82X3", "G0X0Y0Z0"]
        before = [origin(0, 5, 6, 7), origin(1, 50, 60, 70)]
        whole = last(*before, run("\n".join(text)))
        self.assertGreater(whole[0], 10)
        apart = []
        calls = list(before)
        for line in text:
            calls.append(run(line))
            apart.extend(last(*calls)[1:])
        self.assertEqual(apart, whole[1:])

"""Promise 4: gc_place."""

from helper import INCH, MM, PLACE, Case, ask, last, origin, run


class Place(Case):
    def place(self, *expected, before):
        self.assertEqual(last(*before, PLACE), list(expected))

    def test_behind_each_kind_of_motion(self):
        for text, expected in (
            ("G0X1Y2Z3", (0, MM, 2 * MM, 3 * MM)),
            ("G1X1Y2Z3F1", (1, MM, 2 * MM, 3 * MM)),
            ("G2X2Z1I1F1", (2, 2 * MM, 0, MM)),
            ("G3X2I1F1", (3, 2 * MM, 0, 0)),
            ("G2I1F1", (2, 0, 0, 0)),
            ("G81X1R1Z-1F1", (81, MM, 0, MM)),
            ("G82Y1R-1Z-2F1", (82, 0, MM, 0)),
            ("G83X1Y1R1Z-1Q1F1", (83, MM, MM, MM)),
            ("G53X4", (0, 4 * MM, 0, 0)),
            ("G20X1", (0, INCH, 0, 0)),
        ):
            with self.subTest(text=text):
                self.place(*expected, before=[run(text)])

    def test_motion_told_without_an_axis(self):
        for code in (0, 1, 2, 3, 80, 81, 82, 83):
            with self.subTest(code=code):
                self.place(code, MM, 2 * MM, 3 * MM, before=[run("X1Y2Z3"), run("G%d" % code)])

    def test_80_ends_each_motion(self):
        for code in (0, 1, 2, 3, 81, 82, 83):
            with self.subTest(code=code):
                self.place(80, 0, 0, 0, before=[run("G%d" % code), run("G80")])
        self.place(80, MM, 0, MM, before=[run("G81X1R1Z-1F1\nG80")])

    def test_motion_of_the_last_line(self):
        self.place(3, MM, 0, 0, before=[run("G1X1F1\nG80\nG3")])
        self.place(1, MM, 0, 0, before=[run("G1X1F1M2\nG80")])

    def test_it_is_the_machines_own_place(self):
        self.place(0, MM + 5, 6, 7, before=[origin(0, 5, 6, 7), run("X1Y0Z0\nG92X9")])
        self.place(0, 0, 0, 0, before=[origin(0, 5, 6, 7)])

    def test_behind_refused_runs(self):
        before = [run("G1X1F1")]
        for call in (run("G0X2\nA"), run("G0X2", most=0), run("G0X2", skip=2), run("G0X2", most=-1), run("G80X1"),
                     run("G81X1"), run("G0X5\nG80Y1"), run("G80\nX1"), origin(6, 1, 2, 3)):
            with self.subTest(call=call):
                self.place(1, MM, 0, 0, before=[*before, call])

    def test_it_changes_nothing(self):
        self.leaves_machine(PLACE, [run("G91G1X1F1\nG55")])
        self.assertEqual(ask([1], run("X1"), PLACE, PLACE)[2:], [[0, MM, 0, 0]] * 2)

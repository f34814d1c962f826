"""Promise 3: fast and straight motions, G53, G92, G80, and motions told without an axis."""

from helper import INCH, MM, PLACE, Case, last, origin, run

AT_123 = run("X1Y2Z3")


class Fast(Case):
    def test_each_axis(self):
        self.moves("G0X1\nY2\nZ-3\nX4Y5Z6",
                   (0, MM, 0, 0), (0, MM, 2 * MM, 0), (0, MM, 2 * MM, -3 * MM), (0, 4 * MM, 5 * MM, 6 * MM))

    def test_where_it_is_already(self):
        self.moves("X0\nX0Y0Z0", (0, 0, 0, 0), (0, 0, 0, 0))

    def test_stays(self):
        self.moves("G1F1\nG0\nX1\nX2", (0, MM, 0, 0), (0, 2 * MM, 0, 0))


class Straight(Case):
    def test_each_axis(self):
        self.moves("G1F1X1\nY2\nZ-3\nX4Y5Z6", (1, MM, 0, 0, MM), (1, MM, 2 * MM, 0, MM),
                   (1, MM, 2 * MM, -3 * MM, MM), (1, 4 * MM, 5 * MM, 6 * MM, MM))

    def test_told_ahead_of_its_axis(self):
        self.moves("G1\nF2\nX1", (1, MM, 0, 0, 2 * MM))


class WithoutAxis(Case):
    def test_nothing_more(self):
        for code in (0, 1, 2, 3, 80, 81, 82, 83):
            with self.subTest(code=code):
                self.moves("G%dF1" % code)
                self.moves("G%d" % code)

    def test_motions_that_stay_ask_for_nothing(self):
        for code in (0, 1, 2, 3, 80, 81, 82, 83):
            with self.subTest(code=code):
                self.moves("G17\nN1\nF2\nI1J1\nR1Q1P1\nS1", (6, -1, 10000), before=[run("G%dF1" % code)])


class NoMotion(Case):
    def test_with_an_axis(self):
        self.refused_each("G80X1", "G80Y0", "G80Z0F1")

    def test_stays(self):
        for text in ("X1", "Y0", "Z0", "X1Y1Z1R1Q1"):
            with self.subTest(text=text):
                self.refused("G80\n" + text, -2)
                self.refused(text, before=[run("G80")])

    def test_another_one_ends_it(self):
        self.moves("G80\nG0X1\nG80\nG1X2F1", (0, MM, 0, 0), (1, 2 * MM, 0, 0, MM))

    def test_without_an_axis(self):
        self.moves("G80I1J1K1R1Q1P1\nM3", (6, 3, -1))


class OwnZero(Case):
    before = [origin(0, 7, 8, 9), run("G92X5Y5Z5\nX1Y2Z3")]
    at = (MM - 5 * MM, 2 * MM - 5 * MM, 3 * MM - 5 * MM)

    def test_the_case_itself(self):
        self.assertEqual(last(*self.before, PLACE), [0, *self.at])

    def test_from_the_machines_own_zero(self):
        self.moves("G53X1Y2Z3", (0, MM, 2 * MM, 3 * MM), before=self.before)
        self.moves("G53G1X1F2", (1, MM, self.at[1], self.at[2], 2 * MM), before=self.before)
        self.moves("G53Y1", (0, self.at[0], MM, self.at[2]), before=self.before)
        self.moves("G53Z1", (0, self.at[0], self.at[1], MM), before=self.before)

    def test_steps_or_not(self):
        self.moves("G91G53X1\nX1", (0, MM, *self.at[1:]), (0, 2 * MM, *self.at[1:]), before=self.before)

    def test_for_its_line_alone(self):
        self.moves("G53X1\nX1", (0, MM, *self.at[1:]), (0, self.at[0], *self.at[1:]), before=self.before)

    def test_in_motion_0_or_1_that_stays(self):
        self.moves("G1F1\nG53X1", (1, MM, 0, 0, MM))
        self.moves("G0\nG53X1", (0, MM, 0, 0))

    def test_without_an_axis(self):
        self.refused_each("G53", "G53G0", "G53G1F1", "G53I1", "G53P1", "G53R1")

    def test_with_other_motions(self):
        for code in (2, 3, 80, 81, 82, 83):
            with self.subTest(code=code):
                self.refused("G53F1R1Z-1Q1I1G%d" % code)
                self.refused("G53F1X0I1G%d" % code)
                self.refused("G53X0Z-1R1Q1I1", before=[run("F1G%d" % code)])
                self.refused("G53", before=[run("F1G%d" % code)])

    def test_feed_of_0(self):
        self.refused("G53G1X1")


class PutOff(Case):
    def test_where_it_is_becomes_the_told_place(self):
        self.moves("G92X5\nX5\nX6Y1", (0, MM, 2 * MM, 3 * MM), (0, 2 * MM, MM, 3 * MM), before=[AT_123])
        self.moves("G92X5Y6Z-7\nX0Y0Z0", (0, -4 * MM, -4 * MM, 10 * MM), before=[AT_123])

    def test_it_moves_nothing(self):
        self.moves("G92X5Y6Z7", before=[AT_123])
        self.assertEqual(last(AT_123, run("G92X5Y6Z7"), PLACE), [0, MM, 2 * MM, 3 * MM])

    def test_an_axis_not_told_is_put_off_as_before(self):
        self.moves("G92X5\nG92Y5\nX5Y5", (0, MM, 2 * MM, 3 * MM), before=[AT_123])
        self.moves("G92Z5\nX0Y0Z5", (0, 0, 0, 3 * MM), before=[AT_123])

    def test_it_is_not_added_up(self):
        self.moves("G92X5\nG92X6\nX6", (0, MM, 2 * MM, 3 * MM), before=[AT_123])
        self.moves("G92X5\nX7\nG92X0\nX1", (0, 3 * MM, 2 * MM, 3 * MM), (0, 4 * MM, 2 * MM, 3 * MM), before=[AT_123])

    def test_besides_the_origin(self):
        before = [origin(0, 10, 20, 30), origin(1, 100, 200, 300), AT_123]
        self.moves("G92X0Y0Z0\nX0Y0Z0\nG55X0Y0Z0",
                   (0, MM + 10, 2 * MM + 20, 3 * MM + 30), (0, MM + 100, 2 * MM + 200, 3 * MM + 300), before=before)

    def test_the_origin_of_its_line(self):
        before = [origin(1, 100, 200, 300), AT_123]
        self.moves("G55G92X0Y0Z0\nX0Y0Z0\nG54X0", (0, MM, 2 * MM, 3 * MM), (0, MM - 100, 2 * MM, 3 * MM), before=before)

    def test_by_steps_it_is_a_place_too(self):
        self.moves("G91G92X5\nX1\nG90X5", (0, 2 * MM, 2 * MM, 3 * MM), (0, MM, 2 * MM, 3 * MM), before=[AT_123])

    def test_without_an_axis(self):
        self.refused_each("G92", "G92F1", "G92I1J1K1R1Q1P1")

    def test_with_a_motion(self):
        for code in (0, 1, 2, 3, 80, 81, 82, 83):
            with self.subTest(code=code):
                self.refused("G92X0F1G%d" % code)

    def test_in_each_motion_that_stays(self):
        for code in (0, 1, 2, 3, 80, 81, 82, 83):
            with self.subTest(code=code):
                before = [run("G%d" % code)]
                self.moves("G92X1Y1Z1", before=before)
                self.assertEqual(last(*before, run("G92Z1"), PLACE), [code, 0, 0, 0])

    def test_stays_from_run_to_run(self):
        self.moves("X5", (0, MM, 2 * MM, 3 * MM), before=[AT_123, run("G92X5")])

    def test_inches(self):
        self.moves("G20G92Y-1\nY0", (0, MM, 2 * MM + INCH, 3 * MM), before=[AT_123])

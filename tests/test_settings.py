"""Promise 3: what a line settles first, and what stays: inches, the plane, the origin, places or steps, the feed."""

from helper import INCH, MM, Case, origin, run


class Units(Case):
    def test_inches_are_exact(self):
        self.moves("G20X1\nX.0001\nX-999999.9999",
                   (0, INCH, 0, 0), (0, 254, 0, 0), (0, -9999999999 * 254, 0, 0))

    def test_they_stay_till_told_otherwise(self):
        self.moves("X1\nG20\nX1\nY1\nG21\nX1",
                   (0, MM, 0, 0), (0, INCH, 0, 0), (0, INCH, INCH, 0), (0, MM, INCH, 0))

    def test_they_come_before_the_lengths_of_their_line(self):
        self.moves("X1G20\nX1G21", (0, INCH, 0, 0), (0, MM, 0, 0))

    def test_where_it_is_does_not_change(self):
        self.moves("X1\nG20G91Y1", (0, MM, 0, 0), (0, MM, INCH, 0))

    def test_centres_and_pecks_are_lengths(self):
        self.moves("G20G2I1J-1F1", (2, 0, 0, 0, INCH, 17, INCH, -INCH))
        self.moves("G20G83F1R1Z0Q.5",
                   (0, 0, 0, 0), (0, 0, 0, INCH), (1, 0, 0, INCH // 2, INCH), (0, 0, 0, INCH),
                   (0, 0, 0, INCH // 2 + 25000), (1, 0, 0, 0, INCH), (0, 0, 0, INCH))

    def test_waits_tools_and_spindles_are_no_lengths(self):
        self.moves("G20G4P1.5T3S2.5M3", (5, 3, 0), (6, 3, 25000), (4, 15000))
        self.moves("G20G82F1R1Z0P2", (0, 0, 0, 0), (0, 0, 0, INCH), (1, 0, 0, 0, INCH), (4, 20000), (0, 0, 0, INCH))

    def test_put_off_in_inches(self):
        self.moves("G20G92X1\nX2\nG21X2", (0, INCH, 0, 0), (0, 2 * MM - INCH, 0, 0))

    def test_own_zero_in_inches(self):
        self.moves("G20G53X1", (0, INCH, 0, 0), before=[origin(0, 5, 5, 5)])


class Feed(Case):
    def test_a_length_a_minute(self):
        self.moves("G1X1F1.5", (1, MM, 0, 0, 150000))
        self.moves("G1X1F.0001", (1, MM, 0, 0, 10))
        self.moves("G20G1X1F2", (1, INCH, 0, 0, 2 * INCH))

    def test_stays_and_is_not_told_anew_by_inches(self):
        self.moves("F2\nG1X1\nG20\nX1\nF1\nG21X1",
                   (1, MM, 0, 0, 2 * MM), (1, INCH, 0, 0, 2 * MM), (1, MM, 0, 0, INCH))

    def test_counts_in_its_own_line(self):
        self.moves("F1G1X1\nX2F3", (1, MM, 0, 0, MM), (1, 2 * MM, 0, 0, 3 * MM))

    def test_fast_moves_have_none(self):
        self.moves("F5\nX1\nG0Y1F6", (0, MM, 0, 0), (0, MM, MM, 0))

    def test_told_beside_a_wait_or_what_is_put_off(self):
        self.moves("G4P1F2\nG92Y0F3\nG1X1", (4, 10000), (1, MM, 0, 0, 3 * MM))

    def test_0_cannot_be_with_1_2_3_and_holes(self):
        self.refused_each("G1X1", "G1X1F0", "G1X0Y0Z0F0.0000", "G2I1", "G3I1F0", "G2X0I1",
                          "G81R1Z0", "G82R1Z0F0", "G83R1Z0Q1", "G83R1Z0Q1F-0")

    def test_0_told_behind_another(self):
        for text in ("G1X1", "G2I1", "G3J1", "G81R1Z0", "G82R1Z0", "G83R1Z0Q1"):
            with self.subTest(text=text):
                self.refused("F1\n" + text + "\nF0\n" + text, -4)
                self.refused("F1\n" + text + "F0", -2)

    def test_0_with_no_move(self):
        self.moves("G0X1F0\nG1\nG2\nG3\nG81\nR1Q1P1\nG80\nG4P1", (0, MM, 0, 0), (4, 10000))

    def test_stays_from_run_to_run(self):
        self.moves("G1X1", (1, MM, 0, 0, 4 * MM), before=[run("F4")])


class Origins(Case):
    six = [origin(k, 10 + k, 20 + k, 30 + k) for k in range(6)]

    def test_each_one(self):
        for k in range(6):
            with self.subTest(k=k):
                self.moves("G%dX1Y2Z3" % (54 + k), (0, MM + 10 + k, 2 * MM + 20 + k, 3 * MM + 30 + k), before=self.six)

    def test_stays_and_counts_in_its_own_line(self):
        self.moves("X1G55\nX2\nG54\nX2", (0, MM + 11, 0, 0), (0, 2 * MM + 11, 0, 0), (0, 2 * MM + 10, 0, 0),
                   before=self.six)
        self.moves("X0", (0, 14, 0, 0), before=[*self.six, run("G58")])

    def test_alone_it_moves_nothing(self):
        self.moves("G55\nG59", before=self.six)

    def test_an_axis_not_told_stays(self):
        self.moves("X1\nG57Y1", (0, MM + 10, 0, 0), (0, MM + 10, MM + 23, 0), before=self.six)

    def test_steps_are_from_where_it_is(self):
        self.moves("G91G56X1\nG91X1", (0, MM, 0, 0), (0, 2 * MM, 0, 0), before=self.six)


class Steps(Case):
    def test_each_axis(self):
        self.moves("G91X1Y2Z3\nX-2\nY-3\nZ-4",
                   (0, MM, 2 * MM, 3 * MM), (0, -MM, 2 * MM, 3 * MM), (0, -MM, -MM, 3 * MM), (0, -MM, -MM, -MM))

    def test_stay_till_told_otherwise(self):
        self.moves("X1G91\nX1\nG90\nX1\nX1G91", (0, MM, 0, 0), (0, 2 * MM, 0, 0), (0, MM, 0, 0), (0, 2 * MM, 0, 0))

    def test_straight_ones_and_the_ends_of_arcs(self):
        self.moves("X1\nG91G1X1F1\nG2X2I1", (0, MM, 0, 0), (1, 2 * MM, 0, 0, MM),
                   (2, 4 * MM, 0, 0, MM, 17, 3 * MM, 0))

    def test_stay_from_run_to_run(self):
        self.moves("X1", (0, 2 * MM, 0, 0), before=[run("G91X1")])


class Plane(Case):
    def test_stays_and_counts_in_its_own_line(self):
        self.moves("G18G2K1F1\nG2K1\nG19\nG2K1\nG17\nG2I1",
                   (2, 0, 0, 0, MM, 18, MM, 0), (2, 0, 0, 0, MM, 18, MM, 0),
                   (2, 0, 0, 0, MM, 19, 0, MM), (2, 0, 0, 0, MM, 17, MM, 0))
        self.moves("G2K1F1", (2, 0, 0, 0, MM, 19, 0, MM), before=[run("G19")])

    def test_lines_do_not_ask_for_it(self):
        self.moves("G18X1Y1Z1\nG19G1F1X2", (0, MM, MM, MM), (1, 2 * MM, MM, MM, MM))

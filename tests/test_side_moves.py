"""Promise 3: tools, the spindle, cooling, waits, stops, and the order of what a line does."""

from helper import MM, PLACE, Case, last, run


class Tools(Case):
    def test_t(self):
        self.moves("T0\nT7\nT999999\nT12.9999\nT.5", (5, 0, 0), (5, 7, 0), (5, 999999, 0), (5, 12, 0), (5, 0, 0))

    def test_t_with_m6(self):
        self.moves("T7M6\nM6T.5", (5, 7, 1), (5, 0, 1))

    def test_m6_without_t(self):
        self.moves("M6\nT3\nM6", (5, -1, 1), (5, 3, 0), (5, -1, 1))


class Spindle(Case):
    def test_m3_4_5(self):
        self.moves("M3\nM4\nM5", (6, 3, -1), (6, 4, -1), (6, 5, -1))

    def test_with_s(self):
        self.moves("M3S100\nS.0001M4\nM5S0", (6, 3, 1000000), (6, 4, 1), (6, 5, 0))

    def test_s_alone(self):
        self.moves("S1.5\nS0\nS999999.9999", (6, -1, 15000), (6, -1, 0), (6, -1, 9999999999))

    def test_s_does_not_stay(self):
        self.moves("S5\nM3", (6, -1, 50000), (6, 3, -1))


class Cooling(Case):
    def test_m7_8_9(self):
        self.moves("M7\nM8\nM9", (7, 7), (7, 8), (7, 9))


class Waits(Case):
    def test_p_in_ten_thousandths(self):
        self.moves("G4P1\nG4P0\nG4P.0001\nG4P999999.9999", (4, 10000), (4, 0), (4, 1), (4, 9999999999))

    def test_without_p(self):
        self.refused_each("G4", "G4F1", "G4S1", "G4Q1")

    def test_with_an_axis(self):
        self.refused_each("G4P1X1", "G4P1Y0", "G4P1Z-1", "G4P1X0Y0Z0")

    def test_with_a_motion(self):
        for code in (0, 1, 2, 3, 80, 81, 82, 83):
            with self.subTest(code=code):
                self.refused("G4P1F1G%d" % code)

    def test_in_each_motion_that_stays(self):
        for code in (0, 1, 2, 3, 80, 81, 82, 83):
            with self.subTest(code=code):
                before = [run("G%dF1" % code)]
                self.moves("G4P2", (4, 20000), before=before)
                self.assertEqual(last(*before, run("G4P2"), PLACE), [code, 0, 0, 0])

    def test_other_words_and_groups_beside_it(self):
        self.moves("G4P1I1J1K1R1Q1N1\nG4P1G91G20G55G18\nX1", (4, 10000), (4, 10000), (0, 2540000, 0, 0))

    def test_p_alone_is_no_wait(self):
        self.moves("P1\nG0P1\nG80P1")


class Stops(Case):
    def test_each(self):
        self.moves("M0\nM1", (8, 0), (8, 1))
        self.moves("M2", (8, 2))
        self.moves("M30", (8, 30))

    def test_lines_behind_0_and_1_are_done(self):
        self.moves("M0\nX1\nM1\nX2", (8, 0), (0, MM, 0, 0), (8, 1), (0, 2 * MM, 0, 0))
        self.refused("M0\nA", -2)
        self.refused("M1\nA", -2)

    def test_lines_behind_2_and_30_are_not_looked_at(self):
        for code in (2, 30):
            with self.subTest(code=code):
                self.moves("X1M%d\nX2\nA\nG55(\nM0" % code, (0, MM, 0, 0), (8, code))
                self.assertEqual(last(run("X1M%d\nG1X2" % code), PLACE), [0, MM, 0, 0])

    def test_their_own_line_is_done_whole(self):
        self.moves("M2X1\nX2", (0, MM, 0, 0), (8, 2))
        self.refused("M2X1A")
        self.refused("X1\nM30G4", -2)

    def test_in_a_line_not_looked_at(self):
        self.moves("/M2\n%M2\n(M2);M2\nX1", (0, MM, 0, 0), skip=1)

    def test_what_stays_is_not_told_otherwise(self):
        self.moves("X1", (1, 2 * MM, 0, 0, 3 * MM), before=[run("G1G91X1F3M30")])


class Order(Case):
    def test_all_of_them(self):
        self.moves("M30M9M3M6X1G1T4S2F3",
                   (5, 4, 1), (6, 3, 20000), (7, 9), (1, MM, 0, 0, 3 * MM), (8, 30))

    def test_beside_a_wait(self):
        self.moves("M1G4P1M8S1M6", (5, -1, 1), (6, -1, 10000), (7, 8), (4, 10000), (8, 1))

    def test_beside_what_is_put_off(self):
        self.moves("M0T1G92X5\nX5", (5, 1, 0), (8, 0), (0, 0, 0, 0))

    def test_beside_holes(self):
        self.moves("M1M8G81R1Z0F1", (7, 8), (0, 0, 0, 0), (0, 0, 0, MM), (1, 0, 0, 0, MM), (0, 0, 0, MM), (8, 1))

    def test_beside_nothing(self):
        self.moves("M3G80M1", (6, 3, -1), (8, 1))

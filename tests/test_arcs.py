"""Promise 3: arcs, motions 2 and 3."""

from helper import MM, PLACE, Case, last, origin, run

FEED = run("F1")


class Arcs(Case):
    def arc(self, text, *move):
        self.moves(text, move, before=[FEED])

    def cannot_be(self, *texts):
        for text in texts:
            with self.subTest(text=text):
                self.refused(text, before=[FEED])

    def test_with_and_against_the_clock(self):
        self.arc("G2X1Y1I1", 2, MM, MM, 0, MM, 17, MM, 0)
        self.arc("G3X1Y1J1", 3, MM, MM, 0, MM, 17, 0, MM)

    def test_plane_17(self):
        self.arc("G2X2I1J0", 2, 2 * MM, 0, 0, MM, 17, MM, 0)
        self.arc("G2Y2I0J1", 2, 0, 2 * MM, 0, MM, 17, 0, MM)
        self.arc("G2X2Z5I1", 2, 2 * MM, 0, 5 * MM, MM, 17, MM, 0)

    def test_plane_18(self):
        self.arc("G18G2Z2K1", 2, 0, 0, 2 * MM, MM, 18, MM, 0)
        self.arc("G18G3X2I1", 3, 2 * MM, 0, 0, MM, 18, 0, MM)
        self.arc("G18G3X2Y7I1", 3, 2 * MM, 7 * MM, 0, MM, 18, 0, MM)
        self.arc("G18G2X-1Z3K1I-2", 2, -MM, 0, 3 * MM, MM, 18, MM, -2 * MM)

    def test_plane_19(self):
        self.arc("G19G2Y2J1", 2, 0, 2 * MM, 0, MM, 19, MM, 0)
        self.arc("G19G3Z2K1", 3, 0, 0, 2 * MM, MM, 19, 0, MM)
        self.arc("G19G3X7Z2K1", 3, 7 * MM, 0, 2 * MM, MM, 19, 0, MM)
        self.arc("G19G2Y3Z-1J1K-2", 2, 0, 3 * MM, -MM, MM, 19, MM, -2 * MM)

    def test_the_third_centre_is_not_told(self):
        self.cannot_be("G2X2I1K0", "G2X2I1K1", "G18G2Z2K1J0", "G19G2Y2J1I0", "G2I1J1K1", "G2K1", "G18G2J1", "G19G2I1")

    def test_one_centre_at_least_is_told(self):
        self.cannot_be("G2X1", "G3Y1", "G2Z1", "G2X1R1", "G2X2K1", "G18G2Z2", "G19G2Y2", "G18G2Z2J1", "G19G2Y2I1")

    def test_centre_is_from_where_it_is(self):
        before = [origin(0, 10, 20, 30), FEED, run("X1Y2Z3\nG92X100")]
        x = MM + 10
        y = 2 * MM + 20
        z = 3 * MM + 30
        self.moves("G2I1J-1", (2, x, y, z, MM, 17, x + MM, y - MM), before=before)
        self.moves("G91G2I1J-1", (2, x, y, z, MM, 17, x + MM, y - MM), before=before)
        self.moves("G18G2I1K-1", (2, x, y, z, MM, 18, z - MM, x + MM), before=before)
        self.moves("G19G2J1K-1", (2, x, y, z, MM, 19, y + MM, z - MM), before=before)
        self.moves("G2X102I1", (2, x + 2 * MM, y, z, MM, 17, x + MM, y), before=before)

    def test_whole_circles(self):
        self.arc("G2I1", 2, 0, 0, 0, MM, 17, MM, 0)
        self.arc("G3J-1", 3, 0, 0, 0, MM, 17, 0, -MM)
        self.arc("G2X0Y0I1", 2, 0, 0, 0, MM, 17, MM, 0)
        self.arc("G2Z5I1", 2, 0, 0, 5 * MM, MM, 17, MM, 0)
        self.arc("G18G2Y5K1", 2, 0, 5 * MM, 0, MM, 18, MM, 0)

    def test_motion_that_stays(self):
        self.moves("G2X2I1\nX4I1\nY0I1", (2, 2 * MM, 0, 0, MM, 17, MM, 0), (2, 4 * MM, 0, 0, MM, 17, 3 * MM, 0),
                   (2, 4 * MM, 0, 0, MM, 17, 5 * MM, 0), before=[FEED])
        self.refused("G2X2I1\nX4", -2, before=[FEED])

    def test_centre_alone_does_nothing_unless_told_in_the_line(self):
        self.moves("G2\nI1\nJ1\nK1\nI1J1K1", before=[FEED])
        self.moves("G3\nI1\nG3I1", (3, 0, 0, 0, MM, 17, MM, 0), before=[FEED])

    def test_told_with_none_of_them(self):
        self.moves("G2\nG3\nG2R1\nG3P1Q1N1", before=[FEED])
        self.assertEqual(last(FEED, run("G3"), PLACE), [3, 0, 0, 0])

    def test_distance_of_0(self):
        self.cannot_be("G2I0", "G2I0J0", "G3X0Y0J0", "G18G2K0", "G19G2J0K-0.0", "G2X.002I0")

    def test_it_is_at_the_end_then(self):
        self.assertEqual(last(FEED, run("G2X2Z5I1"), PLACE), [2, 2 * MM, 0, 5 * MM])

    def test_feed_of_0(self):
        self.refused_each("G2X2I1", "G3X2I1", "G2I1", "G3J1")


class Difference(Case):
    def end(self, x, fits, text="G2I1"):
        call = [FEED, run("%sX%s" % (text, x))]
        with self.subTest(x=x, text=text):
            self.assertEqual(last(*call)[0], 1 if fits else -1)

    def test_along_one_axis(self):
        self.end("2.002", True)
        self.end("2.0021", False)
        self.end("1.998", True)
        self.end("1.9979", False)
        self.end("-.002", True)
        self.end("-.0021", False)
        self.end(".002", True)
        self.end(".0021", False)

    def test_centre_within_200_of_both(self):
        self.end(".002", True, "G2I.002")
        self.end(".0001", True, "G2I.0001")
        self.end(".0021", True, "G2I.002")
        self.end(".0021", False, "G2I.0021")
        self.end(".0042", True, "G2I.0021")
        self.end(".0022", True, "G2I.0022Y.0022")

    # 3 4 5: the distances are 5 mm and just 200 more or less than that.
    def test_across(self):
        for text, fits in (("X3Y4", True), ("X3.0012Y4.0016", True), ("X3.0012Y4.0017", False),
                           ("X3.0013Y4.0016", False), ("X2.9988Y3.9984", True), ("X2.9988Y3.9983", False),
                           ("X2.9987Y3.9984", False), ("X-3.0012Y-4.0016", True), ("X-3.0013Y-4.0016", False)):
            with self.subTest(text=text):
                call = run("G92X-5Y0\nG2I5J0" + text)
                self.assertEqual(last(FEED, call)[0], 1 if fits else -2)

    def test_far_away_it_is_exact(self):
        self.assertEqual(last(FEED, run("G20G2I999999.9999\nG21G91G2X.002I-999999"))[0], 2)
        before = [FEED, run("G20G92X-999999.9999Y0\nG21")]
        far = "G2I999999J0"
        self.assertEqual(last(FEED, run("G92X-999999Y0\n" + far + "X-999999Y.002"))[0], 1)
        self.assertEqual(last(FEED, run("G92X-999999Y0\n" + far + "X-999999.002"))[0], 1)
        self.assertEqual(last(FEED, run("G92X-999999Y0\n" + far + "X-999999.0021"))[0], -2)
        self.assertEqual(last(FEED, run("G92X-999999Y0\n" + far + "X-999999.002Y.0001"))[0], -2)
        self.assertEqual(last(*before, run("G20G2I999999.9999X0Y999999.9999"))[0], 1)

    def test_the_axis_across_does_not_count(self):
        self.assertEqual(last(FEED, run("G2X2Z999999I1"))[0], 1)
        self.assertEqual(last(FEED, run("G18G2Z2Y999999K1"))[0], 1)
        self.assertEqual(last(FEED, run("G19G2Y2X999999J1"))[0], 1)

    def test_in_each_plane(self):
        for text, fits in (("G18G2Z2.002K1", True), ("G18G2Z2.0021K1", False), ("G18G2X2.002I1", True),
                           ("G18G2X2.0021I1", False), ("G19G3Y2.002J1", True), ("G19G3Y2.0021J1", False),
                           ("G19G3Z2.002K1", True), ("G19G3Z2.0021K1", False), ("G17G3Y2.002J1", True),
                           ("G17G3Y2.0021J1", False)):
            with self.subTest(text=text):
                self.assertEqual(last(FEED, run(text))[0], 1 if fits else -1)

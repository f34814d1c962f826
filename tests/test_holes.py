"""Promise 3: holes, motions 81, 82 and 83."""

from helper import INCH, MM, PLACE, Case, last, origin, run, run_answer

HIGH = run("F1\nZ10")


def hole(x, y, start, level, depth, end, feed=MM, wait=None):
    moves = [(0, x, y, start), (0, x, y, level), (1, x, y, depth, feed)]
    if wait is not None:
        moves.append((4, wait))
    moves.append((0, x, y, end))
    return moves


def pecks(x, y, start, level, stages, end, feed=MM):
    moves = [(0, x, y, start), (0, x, y, level)]
    for number, z in enumerate(stages):
        if number > 0:
            before = stages[number - 1]
            moves.append((0, x, y, level))
            moves.append((0, x, y, min(level, before + 25000)))
        moves.append((1, x, y, z, feed))
    moves.append((0, x, y, end))
    return moves


def mm(*numbers):
    return [number * MM for number in numbers]


class Hole81(Case):
    def test_moves(self):
        self.moves("G81X1Y2R3Z-4", (0, MM, 2 * MM, 10 * MM), (0, MM, 2 * MM, 3 * MM), (1, MM, 2 * MM, -4 * MM, MM),
                   (0, MM, 2 * MM, 10 * MM), before=[HIGH])

    def test_it_is_there_then(self):
        self.assertEqual(last(HIGH, run("G81X1Y2R3Z-4"), PLACE), [81, *mm(1, 2, 10)])

    def test_level_above_the_height(self):
        self.moves("G81X1R12Z-4\nX2", *hole(*mm(1, 0, 10, 12, -4, 12)), *hole(*mm(2, 0, 12, 12, -4, 12)), before=[HIGH])
        self.assertEqual(last(HIGH, run("G81X1R12Z-4"), PLACE), [81, *mm(1, 0, 12)])

    def test_height_stays_where_z_was_when_they_began(self):
        self.moves("G81X1R12Z-4\nX2R3\nX3R11",
                   *hole(*mm(1, 0, 10, 12, -4, 12)), *hole(*mm(2, 0, 12, 3, -4, 10)), *hole(*mm(3, 0, 10, 11, -4, 11)),
                   before=[HIGH])

    def test_with_x_or_y_or_z(self):
        before = [HIGH, run("G81R3Z-4")]
        self.moves("X1", *hole(*mm(1, 0, 10, 3, -4, 10)), before=before)
        self.moves("Y1", *hole(*mm(0, 1, 10, 3, -4, 10)), before=before)
        self.moves("Z-1", *hole(*mm(0, 0, 10, 3, -1, 10)), before=before)
        self.moves("X1Y2Z-1", *hole(*mm(1, 2, 10, 3, -1, 10)), before=before)
        self.moves("X0", *hole(*mm(0, 0, 10, 3, -4, 10)), before=before)

    def test_level_at_the_depth(self):
        self.moves("G81X1R3Z3", *hole(*mm(1, 0, 10, 3, 3, 10)), before=[HIGH])

    def test_level_below_the_depth(self):
        self.refused("G81X1R3Z3.0001", before=[HIGH])
        self.refused("G82X1R-1Z0", before=[HIGH])
        self.refused("G83X1R-1Z0Q1", before=[HIGH])
        self.refused("G81X1R3Z-4\nX2R-5", -2, before=[HIGH])
        self.moves("G81R3\nR-5\nR4\nX1Z-1", *hole(*mm(1, 0, 10, 4, -1, 10)), before=[HIGH])

    def test_level_at_the_height(self):
        self.moves("G81X1R10Z10", *hole(*mm(1, 0, 10, 10, 10, 10)), before=[HIGH])

    def test_p_and_q_are_left_alone(self):
        self.moves("G81X1R3Z-4Q-1P5", *hole(*mm(1, 0, 10, 3, -4, 10)), before=[HIGH])

    def test_feed_stays(self):
        self.moves("G81X1R3Z-4\nX2F7\nX3", *hole(*mm(1, 0, 10, 3, -4, 10)), *hole(*mm(2, 0, 10, 3, -4, 10, 7)),
                   *hole(*mm(3, 0, 10, 3, -4, 10, 7)), before=[HIGH])


class Hole82(Case):
    def test_wait(self):
        self.moves("G82X1R3Z-4P2.5\nX2\nX3P0", *hole(*mm(1, 0, 10, 3, -4, 10), wait=25000),
                   *hole(*mm(2, 0, 10, 3, -4, 10), wait=25000), *hole(*mm(3, 0, 10, 3, -4, 10), wait=0), before=[HIGH])

    def test_wait_is_0_if_it_is_not_told(self):
        self.moves("G82X1R3Z-4", *hole(*mm(1, 0, 10, 3, -4, 10), wait=0), before=[HIGH])

    def test_wait_told_ahead(self):
        self.moves("G81P3\nR3Q1\nG82X1Z-4", *hole(*mm(1, 0, 10, 3, -4, 10), wait=30000), before=[HIGH])

    def test_a_wait_of_g4_is_another(self):
        self.moves("G82R3P1\nG4P7\nX1Z-4", (4, 70000), *hole(*mm(1, 0, 10, 3, -4, 10), wait=10000), before=[HIGH])


class Hole83(Case):
    def test_depth_reached_at_once(self):
        self.moves("G83X1R3Z1Q2", *pecks(MM, 0, *mm(10, 3), mm(1), 10 * MM), before=[HIGH])
        self.moves("G83X1R3Z1Q999999", *pecks(MM, 0, *mm(10, 3), mm(1), 10 * MM), before=[HIGH])
        self.moves("G83X1R3Z1Q1.9999",
                   *pecks(MM, 0, *mm(10, 3), [MM + 10, MM], 10 * MM), before=[HIGH])

    def test_level_at_the_depth(self):
        self.moves("G83X1R3Z3Q1", *hole(*mm(1, 0, 10, 3, 3, 10)), before=[HIGH])

    def test_in_several(self):
        self.moves("G83X1Y2R3Z0Q1",
                   (0, *mm(1, 2, 10)), (0, *mm(1, 2, 3)),
                   (1, *mm(1, 2, 2, 1)), (0, *mm(1, 2, 3)), (0, *mm(1, 2), 225000),
                   (1, *mm(1, 2, 1, 1)), (0, *mm(1, 2, 3)), (0, *mm(1, 2), 125000),
                   (1, *mm(1, 2, 0, 1)), (0, *mm(1, 2, 10)), before=[HIGH])

    def test_last_peck_is_what_is_left(self):
        self.moves("G83X1R3Z-4Q3", *pecks(MM, 0, *mm(10, 3), mm(0, -3, -4), 10 * MM), before=[HIGH])

    def test_not_above_the_level(self):
        self.moves("G83R1Z.5Q.2",
                   (0, *mm(0, 0, 10)), (0, *mm(0, 0, 1)),
                   (1, 0, 0, 80000, MM), (0, *mm(0, 0, 1)), (0, *mm(0, 0, 1)),
                   (1, 0, 0, 60000, MM), (0, *mm(0, 0, 1)), (0, 0, 0, 85000),
                   (1, 0, 0, 50000, MM), (0, *mm(0, 0, 10)), before=[HIGH])
        self.moves("G83R1Z.5Q.25",
                   (0, *mm(0, 0, 10)), (0, *mm(0, 0, 1)),
                   (1, 0, 0, 75000, MM), (0, *mm(0, 0, 1)), (0, *mm(0, 0, 1)),
                   (1, 0, 0, 50000, MM), (0, *mm(0, 0, 10)), before=[HIGH])
        self.moves("G83R1Z.4Q.2501",
                   (0, *mm(0, 0, 10)), (0, *mm(0, 0, 1)),
                   (1, 0, 0, 74990, MM), (0, *mm(0, 0, 1)), (0, 0, 0, 99990),
                   (1, 0, 0, 49980, MM), (0, *mm(0, 0, 1)), (0, 0, 0, 74980),
                   (1, 0, 0, 40000, MM), (0, *mm(0, 0, 10)), before=[HIGH])

    def test_q_above_0(self):
        for text in ("G83X1R3Z1", "G83X1R3Z1Q0", "G83X1R3Z1Q-1", "G83X1R3Z3", "G83X1R3Z3Q0", "G83X1R3Z3Q-.0001"):
            with self.subTest(text=text):
                self.refused(text, before=[HIGH])
        self.moves("G83R3Q-1\nQ0\nQ3X1Z1", *pecks(MM, 0, *mm(10, 3), mm(1), 10 * MM), before=[HIGH])

    def test_at_most_1000_pecks(self):
        answer = last(HIGH, run("G83R1Z-999Q1"))
        self.assertEqual(answer[0], 2 + 1000 + 2 * 999 + 1)
        self.assertEqual(answer, run_answer(*pecks(0, 0, *mm(10, 1), mm(*range(0, -1000, -1)), 10 * MM)))
        self.refused("G83R1Z-999.0001Q1", before=[HIGH])
        self.refused("G83R1.0001Z-999Q1", before=[HIGH])
        self.assertEqual(last(HIGH, run("G83R1Z-998.9999Q1"))[0], 3001)
        self.assertEqual(last(HIGH, run("G83R0Z-.1Q.0001"))[0], 3001)
        self.refused("G83R0Z-.1001Q.0001", before=[HIGH])

    def test_q_does_not_count_for_81_and_82(self):
        self.moves("G81R1Z-999Q.0001", *hole(*mm(0, 0, 10, 1, -999, 10)), before=[HIGH])
        self.moves("G82R1Z-999Q0", *hole(*mm(0, 0, 10, 1, -999, 10), wait=0), before=[HIGH])

    def test_from_line_to_line(self):
        self.moves("G83X1R3Z1Q1\nX2\nZ2\nQ2X3Z1",
                   *pecks(MM, 0, *mm(10, 3), mm(2, 1), 10 * MM), *pecks(2 * MM, 0, *mm(10, 3), mm(2, 1), 10 * MM),
                   *pecks(2 * MM, 0, *mm(10, 3), mm(2), 10 * MM), *pecks(3 * MM, 0, *mm(10, 3), mm(1), 10 * MM),
                   before=[HIGH])


class Known(Case):
    def test_they_must_have_r_and_z(self):
        for code in (81, 82, 83):
            for text in ("X1", "X1R3", "X1Y1R3Q1P1", "Z-4", "X1Z-4Q1P1"):
                with self.subTest(code=code, text=text):
                    self.refused("G%d" % code + text, before=[HIGH])

    def test_r_told_ahead(self):
        self.moves("G81R3\nZ-4", *hole(*mm(0, 0, 10, 3, -4, 10)), before=[HIGH])
        self.moves("G81\nR3\nX1Z-4\nX2", *hole(*mm(1, 0, 10, 3, -4, 10)), *hole(*mm(2, 0, 10, 3, -4, 10)), before=[HIGH])

    def test_they_stay_known_from_run_to_run(self):
        before = [HIGH, run("G83R3Q1P2\nX1Z1")]
        self.moves("X2", *pecks(2 * MM, 0, *mm(10, 3), mm(2, 1), 10 * MM), before=before)
        self.moves("G82X2", *hole(*mm(2, 0, 10, 3, 1, 10), wait=20000), before=before)
        self.moves("R12\nX2\nR3X3", *pecks(2 * MM, 0, *mm(10, 12), mm(*range(11, 0, -1)), 12 * MM),
                   *pecks(3 * MM, 0, *mm(12, 3), mm(2, 1), 10 * MM), before=before)

    def test_they_stay_known_from_kind_to_kind(self):
        self.moves("G81X1R3Z1Q1P2\nG82X2\nG83X3\nG81X4\nG81X5",
                   *hole(*mm(1, 0, 10, 3, 1, 10)), *hole(*mm(2, 0, 10, 3, 1, 10), wait=20000),
                   *pecks(3 * MM, 0, *mm(10, 3), mm(2, 1), 10 * MM), *hole(*mm(4, 0, 10, 3, 1, 10)),
                   *hole(*mm(5, 0, 10, 3, 1, 10)), before=[HIGH])

    def test_height_stays_from_kind_to_kind(self):
        self.moves("G81X1R12Z1\nG82X2R3", *hole(*mm(1, 0, 10, 12, 1, 12)), *hole(*mm(2, 0, 12, 3, 1, 10), wait=0),
                   before=[HIGH])

    def test_they_are_not_known_when_holes_begin_again(self):
        for between in ("G80", "G0", "G1", "G2", "G3", "G0X5", "G1X5"):
            for code in (81, 82, 83):
                for text in ("X1", "X1R3", "Z1"):
                    with self.subTest(between=between, code=code, text=text):
                        self.refused("G83X1R3Z1Q1P2\n%s\nG%d%s" % (between, code, text), -3, before=[HIGH])
            self.refused("G83X1R3Z1Q1\n%s\nG83X1R3Z1" % between, -3, before=[HIGH])

    def test_height_and_wait_when_they_begin_again(self):
        self.moves("G82X1R3Z1P2\nG80\nG0Z20\nG82R3Z1",
                   *hole(*mm(1, 0, 10, 3, 1, 10), wait=20000), (0, *mm(1, 0, 20)),
                   *hole(*mm(1, 0, 20, 3, 1, 20), wait=0), before=[HIGH])

    def test_height_is_told_when_they_begin(self):
        self.moves("G81\nG92Z0\nR3X1Z-20", *hole(*mm(1, 0, 10, 13, -10, 13)), before=[HIGH])

    def test_words_beside_g4_and_g92_are_not_theirs(self):
        self.moves("G83R3Q1\nG4P1R5Q5\nG92X0R6Q6P6\nX1Z1\nG82X1", (4, 10000),
                   *pecks(MM, 0, *mm(10, 3), mm(2, 1), 10 * MM), *hole(*mm(1, 0, 10, 3, 1, 10), wait=0), before=[HIGH])
        self.refused("G81R3\nG92Z5\nX1", -3, before=[HIGH])

    def test_words_ahead_of_holes_are_not_theirs(self):
        self.refused("R3Q1\nG81X1Z1", -2, before=[HIGH])
        self.refused("G80R3\nG81X1Z1", -2, before=[HIGH])


class Zero(Case):
    def test_level_and_depth_from_the_programs_zero(self):
        before = [HIGH, origin(1, 10, 20, 30), run("G55G92Z8")]
        zero = 2 * MM
        self.moves("G81X1Y1R3Z-4", *hole(MM + 10, MM + 20, 10 * MM, zero + 3 * MM, zero - 4 * MM, 10 * MM),
                   before=before)

    def test_origin_alone(self):
        before = [HIGH, origin(0, 10, 20, 30)]
        self.moves("G81X1Y1R3Z-4", *hole(MM + 10, MM + 20, 10 * MM, 3 * MM + 30, -4 * MM + 30, 10 * MM), before=before)

    def test_by_steps(self):
        before = [run("F1\nX5Y5Z10"), origin(0, 10, 20, 30)]
        self.moves("G91G81X1Y-1R-7Z-4\nX1\nY1",
                   *hole(*mm(6, 4, 10, 3), -4 * MM + 30, 10 * MM), *hole(*mm(7, 4, 10, 3), -4 * MM + 30, 10 * MM),
                   *hole(*mm(7, 5, 10, 3), -4 * MM + 30, 10 * MM), before=before)

    def test_by_steps_r_is_from_the_height(self):
        self.moves("G81X1R12Z-4\nG91X1R1\nX1R-1",
                   *hole(*mm(1, 0, 10, 12, -4, 12)), *hole(*mm(2, 0, 12, 11, -4, 11)), *hole(*mm(3, 0, 11, 9, -4, 10)),
                   before=[HIGH])

    def test_what_is_known_stays_as_it_was_told(self):
        before = [HIGH, origin(1, 10, 20, 30), run("G81R3Z-4")]
        self.moves("G55X1Y0\nG20Y0\nG91X0", *hole(MM + 10, 20, *mm(10, 3, -4, 10)), *hole(MM + 10, 20, *mm(10, 3, -4, 10)),
                   *hole(MM + 10, 20, *mm(10, 3, -4, 10)), before=before)
        self.moves("G92Z0\nX1", *hole(*mm(1, 0, 10, 3, -4, 10)), before=before)

    def test_inches(self):
        self.moves("G20G81X1R.25Z-1", *hole(INCH, 0, 10 * MM, INCH // 4, -INCH, 10 * MM), before=[HIGH])


class PlaneAndFeed(Case):
    def test_plane_must_be_17(self):
        for code in (81, 82, 83):
            for plane in (18, 19):
                with self.subTest(code=code, plane=plane):
                    self.refused("G%dG%dX1R3Z1Q1" % (plane, code), before=[HIGH])
                    self.refused("G%dX1R3Z1Q1\nG%dX1" % (code, plane), -2, before=[HIGH])

    def test_then_alone(self):
        self.moves("G18G81R3\nG19Q1\nG17X1Z1", *hole(*mm(1, 0, 10, 3, 1, 10)), before=[HIGH])

    def test_feed_of_0(self):
        for code in (81, 82, 83):
            with self.subTest(code=code):
                self.refused("G%dX1R3Z1Q1F0" % code, before=[HIGH])
                self.moves("G%dR3Q1F0\nF0" % code, before=[HIGH])

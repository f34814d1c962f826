"""Promise 1: the machine behind gc_clear."""

from helper import CLEAR, MM, PLACE, Case, all_told, ask, last, origin, run, run_answer

# Each leaves something else of the machine changed.
CHANGES = (
    [run("X1Y2Z3")],
    [run("G1")],
    [run("G80")],
    [run("G18")],
    [run("G19")],
    [run("G20")],
    [run("G91")],
    [run("F9")],
    [run("G55"), origin(1, 5, 6, 7)],
    [run("G92X1Y2Z3")],
    [run("G81R4Q2P3")],
    [run("G83R4Q2P3F1Z-2")],
    [origin(0, 1, 2, 3)],
    [origin(1, 1, 2, 3)],
    [origin(2, 1, 2, 3)],
    [origin(3, 1, 2, 3)],
    [origin(4, 1, 2, 3)],
    [origin(5, 1, 2, 3)],
)


class Clear(Case):
    def test_answers_0(self):
        self.assertEqual(ask(CLEAR, CLEAR), [[0], [0]])

    def test_is_at_zero_with_motion_0(self):
        self.assertEqual(last(PLACE), [0, 0, 0, 0])

    def test_six_origins_are_zero_and_nothing_is_put_off(self):
        text = "\n".join("G%dX0Y0Z0" % code for code in range(54, 60))
        self.moves(text, *[(0, 0, 0, 0)] * 6)

    def test_first_origin_counts(self):
        before = [origin(k, 10 + k, 20 + k, 30 + k) for k in range(6)]
        self.moves("X0Y0Z0", (0, 10, 20, 30), before=before)

    def test_plane_17(self):
        self.moves("G2I1F1", (2, 0, 0, 0, MM, 17, MM, 0))

    def test_millimetres_and_places(self):
        self.moves("X1\nX1", (0, MM, 0, 0), (0, MM, 0, 0))

    def test_no_feed(self):
        self.refused_each("G1X1", "G2I1", "G3I1", "G81X1Z-1R1", "G82X1Z-1R1", "G83X1Z-1R1Q1")

    def test_again_behind_changes(self):
        new = all_told()
        for change in CHANGES:
            with self.subTest(change=change):
                self.assertNotEqual(all_told(*change), new)
                self.assertEqual(all_told(*change, CLEAR), new)

    def test_again_behind_all_of_them(self):
        calls = [call for change in CHANGES for call in change if last(call)[0] >= 0]
        self.assertEqual(all_told(*calls, CLEAR), all_told())

    def test_holes_are_forgotten(self):
        before = [run("Z5\nG81F1R4Z-2X1P3"), CLEAR]
        self.refused("G81F1X1", before=before)
        self.moves("G82F1R1Z0", (0, 0, 0, 0), (0, 0, 0, MM), (1, 0, 0, 0, MM), (4, 0), (0, 0, 0, MM), before=before)

    def test_next_run_is_as_the_first(self):
        text = "G91X1F2\nG1Y1\nG20Z1\nG55\nG18\nG92X4\nG2Z1K.5"
        first = last(run(text))
        self.assertGreater(first[0], 0)
        self.assertEqual(last(run(text), CLEAR, run(text)), first)
        self.assertNotEqual(last(run(text), run(text)), first)


class ClearAnswer(Case):
    def test_run_behind_clear_answers_its_moves(self):
        self.assertEqual(ask(CLEAR, run("X1"), CLEAR, run("G91X1"))[3], run_answer((0, MM, 0, 0)))

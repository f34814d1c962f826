"""Promise 2: gc_origin."""

from helper import MM, PLACE, Case, last, origin, run

BIG = 10 ** 12
WIDEST = (-2 ** 63, 2 ** 63 - 1)


class Origin(Case):
    def test_k_from_0_to_5_are_54_to_59(self):
        for k in range(6):
            with self.subTest(k=k):
                self.assertEqual(last(origin(k, 1, -2, 3)), [0])
                for other in range(6):
                    expected = (0, 1, -2, 3) if other == k else (0, 0, 0, 0)
                    self.moves("G%dX0Y0Z0" % (54 + other), expected, before=[origin(k, 1, -2, 3)])

    def test_k_outside(self):
        for k in (-1, 6, 7, -6, 54, -2147483648, 2147483647):
            with self.subTest(k=k):
                self.assertEqual(last(origin(k, 1, 2, 3)), [-1])
                self.leaves_machine(origin(k, 1, 2, 3), [origin(5, 4, 5, 6), origin(0, 7, 8, 9)])

    def test_size_10_to_the_12(self):
        for axis in range(3):
            for number in (BIG, -BIG):
                with self.subTest(axis=axis, number=number):
                    p = [4, 5, 6]
                    p[axis] = number
                    self.assertEqual(last(origin(2, *p)), [0])
                    self.moves("G56X0Y0Z0", (0, *p), before=[origin(2, *p)])

    def test_size_above(self):
        before = [run("G56"), origin(2, 11, 12, 13)]
        for axis in range(3):
            for number in (BIG + 1, -BIG - 1, *WIDEST):
                with self.subTest(axis=axis, number=number):
                    p = [4, 5, 6]
                    p[axis] = number
                    self.assertEqual(last(*before, origin(2, *p)), [-1])
                    self.leaves_machine(origin(2, *p), before)

    def test_changed_while_it_counts(self):
        before = [origin(0, 10, 20, 30), run("X1Y1Z1"), origin(0, 100, 200, 300)]
        self.assertEqual(last(*before, PLACE), [0, MM + 10, MM + 20, MM + 30])
        self.moves("X1", (0, MM + 100, MM + 20, MM + 30), before=before)

    def test_changed_while_something_is_put_off(self):
        before = [run("X1\nG92X3"), origin(0, 7, 0, 0)]
        self.moves("X3", (0, MM + 7, 0, 0), before=before)

    def test_the_last_one_told_counts(self):
        self.moves("X0Y0Z0", (0, 4, 5, 6), before=[origin(0, 1, 2, 3), origin(0, 4, 5, 6)])

    def test_stays_behind_runs_and_refused_runs(self):
        before = [origin(1, 1, 2, 3), run("G55X1"), run("G55X2\nA")]
        self.moves("X0Y0Z0", (0, 1, 2, 3), before=before)

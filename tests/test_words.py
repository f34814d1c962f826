"""Promise 3: words, their letters and numbers, and the groups of G and M."""

from helper import MM, Case

ALLOWED = "GMXYZIJKRQPFSTN"
G_GROUPS = ((0, 1, 2, 3, 80, 81, 82, 83), (17, 18, 19), (20, 21), (54, 55, 56, 57, 58, 59), (90, 91), (4, 53, 92))
M_GROUPS = ((6,), (3, 4, 5), (7, 8, 9), (0, 1, 2, 30))


class Numbers(Case):
    def place(self, number, x):
        with self.subTest(number=number):
            self.moves("X" + number, (0, x, 0, 0))

    def test_signs(self):
        self.place("1", MM)
        self.place("+1", MM)
        self.place("-1", -MM)
        self.place("-.5", -MM // 2)
        self.place("+.5", MM // 2)
        self.place("-0", 0)
        self.refused_each("X--1", "X+-1", "X++1", "X-+1", "X1-", "X1+1")

    def test_blanks_and_tabs_between_letter_and_number(self):
        self.place(" 1", MM)
        self.place("\t \t-1", -MM)

    def test_nothing_else_between_letter_and_number(self):
        self.refused_each("X\r1", "X \r1", "X(a)1", "XY1", "X=1", "X\x0b1", "X\xa01")

    def test_no_blank_within_a_number(self):
        self.refused_each("X- 1", "X+\t1", "X1 2", "X1 .5", "X1. 5", "X1\r2")

    def test_no_digit_at_all(self):
        self.refused_each("X", "X ", "X-", "X+", "X.", "X-.", "X+.", "X Y1", "G", "M", "N", "G X1")

    def test_six_digits_before_the_point(self):
        self.place("123456", 123456 * MM)
        self.place("-999999", -999999 * MM)
        self.place("000001", MM)
        self.place("999999.9999", 99999999990)
        self.place("123456.", 123456 * MM)
        self.refused_each("X1234567", "X0000001", "X-1234567", "X1234567.5", "X0000000.1")

    def test_four_digits_behind_the_point(self):
        self.place(".0001", 10)
        self.place("1.2345", 123450)
        self.place("-1.2300", -123000)
        self.place("0.5", 50000)
        self.place("0.05", 5000)
        self.place("0.005", 500)
        self.refused_each("X1.23456", "X.00000", "X1.00000", "X-.12345")

    def test_point_without_digits_on_one_side(self):
        self.place("1.", MM)
        self.place("-1.", -MM)
        self.place(".1", MM // 10)

    def test_two_points(self):
        self.refused_each("X1.2.3", "X..1", "X1..", "X1.2.")

    def test_no_other_form(self):
        self.refused_each("X1e3", "X0x1", "X1,5", "X1_0", "X#1", "X[1]", "X:", "X1:", "X/", "X1/2")

    def test_every_digit(self):
        self.place("123456.7890", 12345678900)
        self.place("987654.3210", 98765432100)

    def place_of_all(self, text, *place):
        self.moves(text, (0, *place))

    def test_words_need_nothing_between(self):
        self.place_of_all("G0X1Y2Z3", MM, 2 * MM, 3 * MM)
        self.place_of_all("N10G0G90X1.Y.5Z-3", MM, MM // 2, -3 * MM)
        self.place_of_all("Z3Y2X1G0", MM, 2 * MM, 3 * MM)


class Letters(Case):
    def test_small_letters(self):
        self.moves("g0x1y2z3", (0, MM, 2 * MM, 3 * MM))
        self.moves("m6t2", (5, 2, 1))
        self.moves("g2i1f1", (2, 0, 0, 0, MM, 17, MM, 0))
        self.moves("g18g3k1f1", (3, 0, 0, 0, MM, 18, MM, 0))
        self.moves("g83r1z0q.5p1f1n7s2",
                   (6, -1, 20000), (0, 0, 0, 0), (0, 0, 0, MM), (1, 0, 0, MM // 2, MM),
                   (0, 0, 0, MM), (0, 0, 0, MM // 2 + 25000), (1, 0, 0, 0, MM), (0, 0, 0, MM))

    def test_only_these_letters(self):
        for letter in "ABCDEFGHIJKLMNOPQRSTUVWXYZ":
            for form in (letter, letter.lower()):
                with self.subTest(letter=form):
                    if letter in ALLOWED:
                        self.allowed(form + "0")
                    else:
                        self.refused(form + "0")
                        self.refused("X1" + form + "0")

    def test_a_letter_twice(self):
        for letter in ALLOWED:
            if letter in "GM":
                continue
            for second in (letter, letter.lower()):
                with self.subTest(letter=letter, second=second):
                    self.allowed(letter + "1G80" if letter in "IJKRQPFSTN" else letter + "1")
                    self.refused(letter + "1 " + second + "1")
                    self.refused(letter + "1 G0 " + second + "2")

    def test_a_letter_again_in_the_next_line(self):
        self.moves("N1X1\nN1X2", (0, MM, 0, 0), (0, 2 * MM, 0, 0))

    def test_below_0(self):
        for letter in "FSTPN":
            with self.subTest(letter=letter):
                self.refused_each(letter + "-1", letter + "-.0001", letter.lower() + "-999999")
                self.allowed(letter + "0", letter + "-0", letter + "-0.0000", letter + ".0001")

    def test_others_may_be_below_0(self):
        self.allowed(*[letter + "-1" for letter in "XYZIJKRQ"])

    def test_n_does_nothing(self):
        self.moves("N0\nN999999.9999\nN1.5X1", (0, MM, 0, 0))

    def test_words_that_a_line_does_not_ask_for_are_left(self):
        self.moves("X1I1J2K3R4Q-5P6", (0, MM, 0, 0))


class Codes(Case):
    def test_whole_in_each_form(self):
        self.moves("G00X1\nG+1F1X2\nG1.X3\nG1.0000X4\nG-0X5\nG000000X6",
                   (0, MM, 0, 0), (1, 2 * MM, 0, 0, MM), (1, 3 * MM, 0, 0, MM), (1, 4 * MM, 0, 0, MM),
                   (0, 5 * MM, 0, 0), (0, 6 * MM, 0, 0))
        self.moves("M03\nM 5.0\nM-0", (6, 3, -1), (6, 5, -1), (8, 0))

    def test_not_whole(self):
        self.refused_each("G0.1", "G1.5", "G.5", "G54.0001", "G-.1", "M3.5", "M.1", "M30.0001", "M6.9999")

    def test_in_no_group(self):
        groups = {code for group in G_GROUPS for code in group}
        for code in range(-100, 200):
            if code not in groups:
                self.assert_refused("G%d" % code)
        groups = {code for group in M_GROUPS for code in group}
        for code in range(-40, 120):
            if code not in groups:
                self.assert_refused("M%d" % code)
        self.refused_each("G999999", "M999999", "G-1", "M-3")

    def assert_refused(self, text):
        with self.subTest(text=text):
            self.refused(text)

    def test_each_of_its_group(self):
        needs = {4: "P1", 53: "X1", 92: "X1"}
        self.allowed(*["G%d%s" % (code, needs.get(code, "")) for group in G_GROUPS for code in group])
        self.allowed(*["M%d" % code for group in M_GROUPS for code in group])

    def test_two_of_one_group(self):
        for letter, groups in (("G", G_GROUPS), ("M", M_GROUPS)):
            for group in groups:
                for first in group:
                    for second in group:
                        with self.subTest(letter=letter, first=first, second=second):
                            text = "%s%d%s%d" % (letter, first, letter, second)
                            self.refused("P1F1" + text)
                            self.refused("P1F1X1Z-1R1Q1" + text)

    def test_one_of_each_group(self):
        self.moves("G1G18G20G55G91G53M6M3M8M1F1X1",
                   (5, -1, 1), (6, 3, -1), (7, 8), (1, 2540000, 0, 0, 2540000), (8, 1))

    def test_g_and_m_are_apart(self):
        self.moves("G0M0\nG3M3\nG4P0M4", (8, 0), (6, 3, -1), (6, 4, -1), (4, 0))

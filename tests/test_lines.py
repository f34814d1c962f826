"""Promise 3: the lines of a text, notes, and the bytes that may stand in a line."""

from helper import MM, Case, run

ONE = (0, MM, 0, 0)
TWO = (0, 2 * MM, 0, 0)


class Lines(Case):
    def test_empty_text(self):
        self.moves("")

    def test_last_byte_10_or_not(self):
        self.moves("X1\nX2", ONE, TWO)
        self.moves("X1\nX2\n", ONE, TWO)
        self.moves("X1\nX2\n\n", ONE, TWO)

    def test_empty_lines_do_nothing(self):
        self.moves("\n\nX1\n \t \n\nX2", ONE, TWO)
        self.moves("\n")

    def test_words_do_not_reach_over_lines(self):
        self.refused("X\n1")
        self.refused("X1\nX-\n2", -2)

    def test_a_line_number_counts_every_line(self):
        self.refused("A", -1)
        self.refused("\nA", -2)
        self.refused("\n\n\n\nA", -5)
        self.refused("X1\n%A\n/A\n(A)\n;A\n\r\nA\n", -7, skip=1)
        self.refused("X1\nA\nB", -2)

    def test_percent(self):
        self.moves("%\nX1\n%A ( $\n \t %(\n\t%X5\nX2\n%", ONE, TWO)
        self.moves("%\r\nX1\r\n", ONE)

    def test_percent_counts_only_ahead(self):
        self.refused_each("X1%", "N1 %", "(a)%", "\r%")

    def test_slash_with_skip_1(self):
        self.moves("/X1\n \t/A((\nX2\n/", TWO, skip=1)

    def test_slash_with_skip_0(self):
        self.moves("/X1\n \t/ X2\n/\n/;A", ONE, TWO)
        self.refused("X1\n/A", -2)
        self.refused("/X1(", -1)

    def test_slash_is_left_off_once(self):
        self.refused_each("//X1", "/%", "/ /", "/ %X1")

    def test_slash_counts_only_ahead(self):
        for skip in (0, 1):
            for text in ("X1/", "X1 /X2", "(a)/X1", "\r/X1"):
                with self.subTest(text=text, skip=skip):
                    self.refused(text, skip=skip)

    def test_blanks_tabs_and_13_are_passed_over(self):
        self.moves(" \t\rG0 \t\rX1\r \t\n\rX2\r\n", ONE, TWO)
        self.moves("G0\rX1", ONE)

    def test_no_line_ends_at_13(self):
        self.refused("X1\rX2")
        self.refused("X1\r\nX2\r\nA", -3)


class Notes(Case):
    def test_a_note_is_passed_over(self):
        self.moves("(A)X1(X5;(\t%)(\xff\x00)\n()X2", ONE, TWO)
        self.moves("G0(a)X1", ONE)

    def test_a_note_ends_at_the_next_end(self):
        self.moves("((()X1", ONE)
        self.refused_each("(())X1", "(a)b)", ")", "X1)")

    def test_a_note_has_its_end_in_its_line(self):
        self.refused_each("(", "X1(", "X1 (abc\n)", "(\n)")
        self.refused("X1();(\n(", -2)

    def test_a_note_does_not_stand_in_a_word(self):
        self.refused_each("X(a)1", "X-(a)1", "X1(a)2", "X1(a).2")

    def test_a_note_that_hides_the_sign_that_ends_a_line(self):
        self.moves("(;)X1", ONE)


class EndOfLine(Case):
    def test_semicolon_ends_the_line(self):
        self.moves("X1;X2\n;A(%\nG91;\nX1", ONE, TWO)
        self.moves("X1;(\xff\x00", ONE)

    def test_a_word_is_whole_ahead_of_it(self):
        self.refused("X;1")
        self.refused("X1;\nX-;", -2)


class Bytes(Case):
    def test_bytes_that_may_not_stand_there(self):
        allowed = set(b" \t\r\n;%/") | set(b"()")
        for byte in range(256):
            if byte in allowed:
                continue
            with self.subTest(byte=byte):
                self.refused([byte])
                self.refused(list(b"X1 ") + [byte] + list(b" Y2"))

    def test_bytes_that_may(self):
        for byte in b" \t\r;":
            with self.subTest(byte=byte):
                self.moves(list(b"X1 ") + [byte], ONE)

    def test_behind_a_run_that_is_refused_the_next_counts_anew(self):
        self.refused("X1\nA", -2, before=[run("\n\n\nA")])

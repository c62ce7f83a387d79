"""A text's fault: the first line that is wrong, and of it the least kind."""

import itertools
import re
import unittest

from talk import outcome, slip_lines


class Kinds(unittest.TestCase):
    def assert_kind(self, kind, *lines):
        """Holds each line against the kind, alone and behind and ahead of right lines."""
        for line in lines:
            with self.subTest(line=line[:40]):
                self.assertEqual(outcome(line), [-2, 0, kind])
                self.assertEqual(outcome(b"5 Q q\n6 R r\n" + line), [-2, 2, kind])
                if line.endswith(b"\n"):
                    self.assertEqual(outcome(line + b"5 Q q\n"), [-2, 0, kind])

    def test_costs_that_are_told(self):
        for cost in [b"1", b"10", b"65535"]:
            self.assertEqual(outcome(cost + b" e i\n"), [1])

    def test_a_cost_that_begins_with_0(self):
        self.assert_kind(1, b"0 e i\n", b"00 e i\n", b"01 e i\n", b"065535 e i\n", b"065536 e i\n")
        self.assert_kind(1, b"0" * 40000 + b" e i\n", b"0" + b"9" * 40000 + b" e i\n")

    def test_no_cost(self):
        self.assert_kind(1, b" e i\n", b"  \n", b" e \n", b"  i\n")

    def test_a_cost_that_is_no_row_of_digits(self):
        self.assert_kind(1, b"x e i\n", b"-5 e i\n", b"+5 e i\n", b"5x e i\n", b"x5 e i\n", b"5_0 e i\n")
        self.assert_kind(1, b"5.0 e i\n", b"5/ e i\n", b"5: e i\n", b"/5 e i\n", b":5 e i\n", b"5\t e i\n")
        self.assert_kind(1, b"\xb2 e i\n", b"5\xb2 e i\n", b"5\x00 e i\n", b"1" * 40000 + b"x e i\n")

    def test_a_cost_above_65535(self):
        self.assert_kind(2, b"65536 e i\n", b"65540 e i\n", b"70000 e i\n", b"99999 e i\n", b"100000 e i\n")
        self.assert_kind(2, b"131073 e i\n", b"4294967297 e i\n", b"18446744073709551617 e i\n")

    def test_a_very_long_row_of_digits(self):
        self.assert_kind(2, b"1" * 4300 + b" e i\n", b"1" * 4301 + b" e i\n", b"1" + b"0" * 50000 + b" e i\n")

    def test_the_longest_text_of_digits_that_is_handed_in(self):
        self.assertEqual(outcome(b"9" * 59995 + b" e i\n"), [-2, 0, 2])
        self.assertEqual(outcome(b"9" * 60000), [-2, 0, 1])

    def test_what_is_no_letter(self):
        for number in range(256):
            # A line feed is no letter either, but it ends the line.
            if 0x21 <= number <= 0x7E or number == 0x0A:
                continue
            for line in [b"5 %c i\n", b"5 e %c\n", b"5 a%cb i\n", b"5 e a%cb\n", b"5 %c \n", b"5  %c\n"]:
                with self.subTest(number=number, line=line):
                    self.assertEqual(outcome(line % number), [-2, 0, 1])

    def test_letters_at_the_edges(self):
        self.assertEqual(outcome(b"5 ! ~\n"), [1])
        self.assertEqual(outcome(b"5 ~ !\n"), [1])
        self.assert_kind(1, b"5 \x7f !\n", b"5 ! \x7f\n", b"5 \x1f !\n", b"5 ! \x1f\n", b"5 \x80 !\n", b"5 ! \xff\n")

    def test_fewer_blanks_than_two(self):
        self.assert_kind(1, b"5\n", b"5 e\n", b"5 \n", b"5ei\n", b"5\te\ti\n")

    def test_more_blanks_than_two(self):
        self.assert_kind(1, b"5 e i \n", b" 5 e i\n", b"5  e i\n", b"5 e  i\n", b"5   \n", b"   \n", b"5 e i j\n")

    def test_an_empty_line(self):
        self.assert_kind(1, b"\n", b"\n\n")
        self.assertEqual(outcome(b"5 e i\n\n"), [-2, 1, 1])
        self.assertEqual(outcome(b"5 e i\n\n6 i e\n"), [-2, 1, 1])

    def test_lines_are_parted_at_a_line_feed_alone(self):
        self.assert_kind(1, b"5 e i\r\n", b"5 e i\r6 i e\n", b"5 e i\x0b6 i e\n", b"5 e i\x0c6 i e\n", b"5 e i\x1e\n")
        self.assert_kind(1, b"5 e i\x856 i e\n", b"5 e i\x00\n")

    def test_no_line_feed_behind_the_last_line(self):
        self.assert_kind(1, b"5 e i", b"5 e ", b"5  i", b"5 ", b"5", b" ")
        self.assertEqual(outcome(b"5 e i\n6 i e"), [-2, 1, 1])

    def test_a_line_without_line_feed_behind_a_wrong_one(self):
        self.assertEqual(outcome(b"5 e e\n6 i e"), [-2, 0, 3])

    def test_more_than_three_letters(self):
        self.assert_kind(2, b"5 abcd i\n", b"5 e abcd\n", b"5 abcd \n", b"5  abcd\n", b"5 abcd wxyz\n")
        self.assert_kind(2, b"5 " + b"a" * 30000 + b" i\n", b"5 e " + b"a" * 30000 + b"\n")
        self.assertEqual(outcome(b"5 abc xyz\n"), [1])

    def test_the_same_letters_typed_and_meant(self):
        self.assert_kind(3, b"5 e e\n", b"5 abc abc\n", b"5  \n", b"65535 ! !\n")
        self.assertEqual(outcome(b"5 ab ba\n5 a ab\n5 E e\n"), [3])

    def test_a_slip_that_a_line_before_has(self):
        for text in [b"5 e i\n5 e i\n", b"5 e i\n6 e i\n", b"6 e i\n5 e i\n", b"5  i\n7  i\n", b"5 e \n7 e \n"]:
            with self.subTest(text=text):
                self.assertEqual(outcome(text), [-2, 1, 4])

    def test_a_slip_that_a_line_far_before_has(self):
        lines = slip_lines(31)
        for place in range(31):
            with self.subTest(place=place):
                again = b"9" + lines[place].lstrip(b"0123456789")
                self.assertEqual(outcome(b"".join(lines) + again), [-2, 31, 4])

    def test_the_33rd_line(self):
        lines = slip_lines(40)
        self.assertEqual(outcome(b"".join(lines[:32])), [32])
        self.assertEqual(outcome(b"".join(lines[:33])), [-2, 32, 5])
        self.assertEqual(outcome(b"".join(lines)), [-2, 32, 5])


class Least(unittest.TestCase):
    def test_1_ahead_of_every_other(self):
        full = b"".join(slip_lines(32))
        wrong = [b"65536 e\n", b"65536 abcd \x7f\n", b"5 \x7f \x7f\n", b"0 e e\n", b"0 A aa\n", b"5 A aa", b"5 x y"]
        for line in wrong:
            with self.subTest(line=line):
                self.assertEqual(outcome(b"1 A aa\n" + line), [-2, 1, 1])
                self.assertEqual(outcome(full + line), [-2, 32, 1])

    def test_2_ahead_of_3_4_5(self):
        full = b"".join(slip_lines(32))
        for line in [b"65536 e e\n", b"5 abcd abcd\n", b"65536  \n", b"65536 A aa\n", b"65536 x y\n"]:
            with self.subTest(line=line):
                self.assertEqual(outcome(b"1 A aa\n" + line), [-2, 1, 2])
                self.assertEqual(outcome(full + line), [-2, 32, 2])

    def test_3_ahead_of_5(self):
        self.assertEqual(outcome(b"".join(slip_lines(32)) + b"5 e e\n"), [-2, 32, 3])

    def test_4_ahead_of_5(self):
        lines = slip_lines(32)
        self.assertEqual(outcome(b"".join(lines) + lines[7]), [-2, 32, 4])
        self.assertEqual(outcome(b"".join(lines) + b"77 A aa\n"), [-2, 32, 4])

    def test_the_first_wrong_line_whatever_its_kind(self):
        wrong = [(b"\n", 1), (b"65536 e i\n", 2), (b"5 e e\n", 3), (b"9 Q q\n", 4)]
        for ahead, kind in wrong:
            for behind, other in wrong:
                with self.subTest(kind=kind, other=other):
                    self.assertEqual(outcome(b"5 Q q\n5 R r\n" + ahead + behind), [-2, 2, kind])

    def test_each_line_of_a_full_table_wrong_in_turn(self):
        for place in range(32):
            lines = slip_lines(32)
            lines[place] = b"5 e e\n"
            with self.subTest(place=place):
                self.assertEqual(outcome(b"".join(lines)), [-2, place, 3])

    def test_a_wrong_line_behind_the_33rd_is_not_told(self):
        lines = slip_lines(33)
        self.assertEqual(outcome(b"".join(lines) + b"\n"), [-2, 32, 5])
        self.assertEqual(outcome(b"".join(lines) + b"5"), [-2, 32, 5])


class Grid(unittest.TestCase):
    """Lines of every mix of parts, held against another reading of the document."""

    COSTS = [b"", b"0", b"07", b"1", b"65535", b"65536", b"123456", b"7x", b"-7"]
    LETTERS = [b"", b"a", b"!~", b"abc", b"abcd", b"a b", b" ", b"\x7f", b"\x1f"]
    ENDS = [b"\n", b"", b" \n", b"\n\n"]

    def expected(self, line):
        """The answer to a text of one line or two of which the second is empty."""
        first = line.split(b"\n")[0]
        form = re.fullmatch(rb"([1-9][0-9]*) ([!-~]*) ([!-~]*)", first)
        if form is None or b"\n" not in line:
            return [-2, 0, 1]
        cost, typed, meant = form.groups()
        if int(cost) > 65535 or len(typed) > 3 or len(meant) > 3:
            return [-2, 0, 2]
        if typed == meant:
            return [-2, 0, 3]
        return [-2, 1, 1] if line.endswith(b"\n\n") else [1]

    def test_the_grid(self):
        for cost, typed, meant, end in itertools.product(self.COSTS, self.LETTERS, self.LETTERS, self.ENDS):
            line = cost + b" " + typed + b" " + meant + end
            self.assertEqual(outcome(line), self.expected(line), line)


if __name__ == "__main__":
    unittest.main()

"""What read puts into the table and what write tells of it: one text, one table."""

import itertools
import unittest

from talk import RUN_LINES, RUN_WRITTEN, WRITE, outcome, read, slip_lines, told, wrote


class Run(unittest.TestCase):
    def test_the_run_is_written_as_the_document_shows(self):
        self.assertEqual(told(read(b"".join(RUN_LINES)), WRITE), [[5], wrote(RUN_WRITTEN)])

    def test_the_run_in_every_order_is_written_as_one_text(self):
        for lines in itertools.permutations(RUN_LINES):
            with self.subTest(lines=lines):
                self.assertEqual(told(read(b"".join(lines)), WRITE), [[5], wrote(RUN_WRITTEN)])

    def test_what_was_written_is_read_as_the_same_table(self):
        self.assertEqual(told(read(RUN_WRITTEN), WRITE), [[5], wrote(RUN_WRITTEN)])


class Count(unittest.TestCase):
    def test_an_empty_text_has_no_slips(self):
        self.assertEqual(told(read(b""), WRITE), [[0], [0]])

    def test_how_many_slips(self):
        for many in range(33):
            with self.subTest(many=many):
                text = b"".join(slip_lines(many))
                self.assertEqual(told(read(text), WRITE), [[many], wrote(text)])

    def test_thirty_two_lines_backwards(self):
        lines = slip_lines(32)
        backwards = b"".join(reversed(lines))
        self.assertEqual(told(read(backwards), WRITE), [[32], wrote(b"".join(lines))])


class Order(unittest.TestCase):
    def assert_written(self, read_lines, written_lines):
        got = told(read(b"".join(read_lines)), WRITE)
        self.assertEqual(got, [[len(read_lines)], wrote(b"".join(written_lines))])

    def test_letters_typed_by_the_first_place_where_they_differ(self):
        ordered = [b"9 !b x\n", b"8 ab x\n", b"7 ba x\n", b"6 bb x\n", b"5 ~a x\n"]
        for lines in itertools.permutations(ordered):
            self.assert_written(lines, ordered)

    def test_a_beginning_before_what_it_begins(self):
        ordered = [b"4  x\n", b"3 a x\n", b"2 ab x\n", b"1 abc x\n", b"9 b x\n"]
        for lines in itertools.permutations(ordered):
            self.assert_written(lines, ordered)

    def test_of_the_same_letters_typed_by_the_letters_meant(self):
        ordered = [b"4 a \n", b"3 a b\n", b"2 a ba\n", b"1 a bac\n", b"9 a c\n"]
        for lines in itertools.permutations(ordered):
            self.assert_written(lines, ordered)

    def test_not_by_the_letters_typed_and_meant_in_one_row(self):
        # In one row "a!b" would stand ahead of "az".
        ordered = [b"2 a z\n", b"1 a! b\n"]
        self.assert_written(reversed_of(ordered), ordered)

    def test_not_by_cost(self):
        ordered = [b"65535 a b\n", b"10 a c\n", b"9 b a\n"]
        self.assert_written(reversed_of(ordered), ordered)

    def test_greater_and_lesser_letters(self):
        ordered = [b"1 A a\n", b"1 Z a\n", b"1 a A\n", b"1 z A\n"]
        self.assert_written(reversed_of(ordered), ordered)


def reversed_of(lines):
    return list(reversed(lines))


class Costs(unittest.TestCase):
    def test_costs_are_written_in_decimal(self):
        for cost in [1, 9, 10, 99, 100, 255, 256, 1000, 9999, 10000, 12345, 32768, 65534, 65535]:
            with self.subTest(cost=cost):
                text = b"%d e i\n" % cost
                self.assertEqual(told(read(text), WRITE), [[1], wrote(text)])


class Letters(unittest.TestCase):
    def test_every_letter_typed_and_meant(self):
        for letter in range(0x21, 0x7F):
            with self.subTest(letter=letter):
                typed = b"5 %c \n" % letter
                self.assertEqual(told(read(typed), WRITE), [[1], wrote(typed)])
                meant = b"5  %c\n" % letter
                self.assertEqual(told(read(meant), WRITE), [[1], wrote(meant)])

    def test_three_letters_typed_and_meant(self):
        for text in [b"5 abc \n", b"5  abc\n", b"5 abc xyz\n", b"5 ~~~ !!!\n", b"5 123 456\n"]:
            with self.subTest(text=text):
                self.assertEqual(told(read(text), WRITE), [[1], wrote(text)])

    def test_nothing_typed_and_nothing_meant_in_one_table(self):
        self.assertEqual(told(read(b"60 s \n50  s\n"), WRITE), [[2], wrote(b"50  s\n60 s \n")])

    def test_turned_about_and_cut_elsewhere_are_other_slips(self):
        text = b"5 a b\n5 a bc\n5 ab c\n5 b a\n"
        self.assertEqual(told(read(text), WRITE), [[4], wrote(text)])


class Replaced(unittest.TestCase):
    def test_a_new_table_stands_in_the_old_ones_place(self):
        got = told(read(RUN_WRITTEN), read(b"7 x y\n"), WRITE)
        self.assertEqual(got, [[5], [1], wrote(b"7 x y\n")])

    def test_a_slip_of_the_old_table_may_be_read_again(self):
        got = told(read(b"7 x y\n"), read(b"8 x y\n"), WRITE)
        self.assertEqual(got, [[1], [1], wrote(b"8 x y\n")])

    def test_a_full_table_is_replaced_by_a_full_one(self):
        text = b"".join(slip_lines(32))
        self.assertEqual(told(read(text), read(text), WRITE), [[32], [32], wrote(text)])

    def test_an_empty_text_drops_the_table(self):
        self.assertEqual(told(read(RUN_WRITTEN), read(b""), WRITE), [[5], [0], [0]])

    def test_a_refused_text_leaves_the_table(self):
        full = b"".join(slip_lines(33))
        refused = [
            (b"\n", [-2, 0, 1]),
            (b"9 x y\n9 e i", [-2, 1, 1]),
            (b"9 x y\n65536 e i\n", [-2, 1, 2]),
            (b"9 x y\n9 e e\n", [-2, 1, 3]),
            (b"9 x y\n9 e i\n8 x y\n", [-2, 2, 4]),
            (full, [-2, 32, 5]),
        ]
        for text, fault in refused:
            with self.subTest(fault=fault):
                got = told(read(RUN_WRITTEN), read(text), WRITE)
                self.assertEqual(got, [[5], fault, wrote(RUN_WRITTEN)])

    def test_a_refused_text_leaves_a_new_object_without_slips(self):
        self.assertEqual(told(read(b"9 x y\n9 e e\n"), WRITE), [[-2, 1, 3], [0]])

    def test_a_read_behind_a_refused_one(self):
        got = told(read(b"9 x y\n9 e e\n"), read(b"8 x y\n"), WRITE)
        self.assertEqual(got, [[-2, 1, 3], [1], wrote(b"8 x y\n")])


class TooLong(unittest.TestCase):
    # The interface hands in no text of this length, but the refusal is told of it.
    def test_above_65536_bytes_nothing_is_looked_at(self):
        right = b"".join(slip_lines(2))
        for text in [right + b"x" * 65537, b"\n" * 65537, [300] * 65537]:
            got = told(read(RUN_WRITTEN), read(text), WRITE)
            self.assertEqual(got, [[5], [-1], wrote(RUN_WRITTEN)])

    def test_65536_bytes_are_looked_at(self):
        text = b"9 e i\n" + b"1" * 65530
        self.assertEqual(outcome(text), [-2, 1, 1])


if __name__ == "__main__":
    unittest.main()

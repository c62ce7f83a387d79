"""Refusals of cost, nth and all: at their edges, in their order, and that they change nothing."""

import unittest

from talk import (
    NO_LETTERS, NONE_SUCH, RUN, RUN_WRITTEN, TOO_GREAT, WRITE, asked, cost, nth, read, row_told, rows, rows_told, told,
    wrote,
)

NO_LETTER_NUMBERS = [0x00, 0x0A, 0x1F, 0x20, 0x7F, 0x80, 0xA1, 0xFF]


def answer(call):
    """What a new object answers to one call."""
    return told(call)[0]


class Sizes(unittest.TestCase):
    def test_a_typed_row_of_24_letters(self):
        row = b"a" * 24
        self.assertEqual(answer(cost(row, row)), [0])
        self.assertEqual(answer(nth(0, row)), row_told(0, row))
        self.assertEqual(answer(nth(63, row)), NONE_SUCH)
        self.assertEqual(answer(rows(row)), rows_told((0, row)))

    def test_a_typed_row_of_25_letters_and_more(self):
        for many in [25, 26, 33, 34, 63, 64, 65, 100]:
            with self.subTest(many=many):
                row = b"a" * many
                self.assertEqual(answer(cost(row, b"a")), TOO_GREAT)
                self.assertEqual(answer(cost(row, row)), TOO_GREAT)
                self.assertEqual(answer(nth(0, row)), TOO_GREAT)
                self.assertEqual(answer(rows(row)), TOO_GREAT)

    def test_a_row_meant_of_33_letters(self):
        self.assertEqual(answer(cost(b"a", b"a" * 33)), NONE_SUCH)
        slips = {(b"", b"abc"): 7}
        self.assertEqual(asked(slips, cost(b"x" * 24, b"abc" + b"x" * 24 + b"abcabc")), [[21]])

    def test_a_row_meant_of_25_letters_is_not_too_long(self):
        self.assertEqual(asked({(b"", b"y"): 7}, cost(b"x" * 24, b"x" * 24 + b"y")), [[7]])

    def test_a_row_meant_of_34_letters_and_more(self):
        for many in [34, 35, 63, 64, 65, 100]:
            with self.subTest(many=many):
                self.assertEqual(answer(cost(b"a", b"a" * many)), TOO_GREAT)
                self.assertEqual(answer(cost(b"a" * 25, b"a" * many)), TOO_GREAT)

    def test_a_number_of_63(self):
        self.assertEqual(answer(nth(63, b"a")), NONE_SUCH)
        # One row as typed, 9 with one x put in, 45 with two: number 63 is the ninth with three.
        expected = row_told(15, b"abcdefxxgxh")
        self.assertEqual(asked({(b"", b"x"): 5}, nth(63, b"abcdefgh")), [expected])

    def test_a_number_of_64_and_more(self):
        slips = {(b"", b"x"): 5}
        for number in [64, 65, 100, 255, 256, 320, 32768, 60000]:
            with self.subTest(number=number):
                self.assertEqual(answer(nth(number, b"a")), TOO_GREAT)
                self.assertEqual(asked(slips, nth(number, b"abcdefgh")), [TOO_GREAT])

    def test_empty_rows(self):
        self.assertEqual(answer(cost(b"", b"")), [0])
        self.assertEqual(answer(cost(b"", b"a")), NONE_SUCH)
        self.assertEqual(answer(cost(b"a", b"")), NONE_SUCH)
        self.assertEqual(answer(nth(0, b"")), [0, 0])
        self.assertEqual(answer(rows(b"")), [1, 0, 0])
        slips = {(b"a", b""): 5, (b"", b"b"): 6}
        self.assertEqual(asked(slips, cost(b"aaa", b""), cost(b"", b"bb"), cost(b"aaaa", b"")), [[15], [12], NONE_SUCH])
        self.assertEqual(asked(slips, nth(1, b"a"), nth(1, b"")), [[0, 5], [1, 6, 0x62]])


class NoLetters(unittest.TestCase):
    def test_letters_at_the_edges(self):
        for number in [0x21, 0x7E]:
            row = bytes([number])
            with self.subTest(number=number):
                self.assertEqual(answer(cost(row, b"a")), NONE_SUCH)
                self.assertEqual(answer(cost(b"a", row)), NONE_SUCH)
                self.assertEqual(answer(cost(row, row)), [0])
                self.assertEqual(answer(nth(0, row)), row_told(0, row))
                self.assertEqual(answer(rows(row)), rows_told((0, row)))

    def test_what_is_no_letter_alone(self):
        for number in NO_LETTER_NUMBERS:
            row = bytes([number])
            with self.subTest(number=number):
                self.assertEqual(answer(cost(row, b"a")), NO_LETTERS)
                self.assertEqual(answer(cost(b"a", row)), NO_LETTERS)
                self.assertEqual(answer(cost(row, row)), NO_LETTERS)
                self.assertEqual(answer(cost(row, b"")), NO_LETTERS)
                self.assertEqual(answer(cost(b"", row)), NO_LETTERS)
                self.assertEqual(answer(nth(0, row)), NO_LETTERS)
                self.assertEqual(answer(rows(row)), NO_LETTERS)

    def test_what_is_no_letter_wherever_it_stands(self):
        for number in NO_LETTER_NUMBERS:
            for place in range(24):
                row = b"a" * place + bytes([number]) + b"a" * (23 - place)
                longer = row + b"a" * 9
                self.assertEqual(answer(cost(row, b"a" * 24)), NO_LETTERS)
                self.assertEqual(answer(cost(b"a" * 24, longer)), NO_LETTERS)
                self.assertEqual(answer(nth(0, row)), NO_LETTERS)
                self.assertEqual(answer(rows(row)), NO_LETTERS)


class Order(unittest.TestCase):
    def test_too_great_ahead_of_no_letters(self):
        calls = [
            cost(b" " * 25, b"a"), cost(b"a" * 25, b" "), cost(b" ", b"a" * 34), cost(b"a", b" " * 34),
            cost(b"a" * 24 + b" ", b" "), cost(b"a", b"a" * 33 + b"\x7f"),
            nth(0, b" " * 25), nth(64, b" "), nth(60000, b"\x7f"), nth(64, b" " * 25), rows(b" " * 25),
        ]
        for call in calls:
            with self.subTest(call=call):
                self.assertEqual(answer(call), TOO_GREAT)

    def test_too_great_ahead_of_none_such(self):
        for call in [cost(b"a", b"b" * 34), cost(b"a" * 25, b"b"), nth(64, b"a"), nth(1, b"a" * 25)]:
            with self.subTest(call=call):
                self.assertEqual(answer(call), TOO_GREAT)

    def test_no_letters_ahead_of_none_such(self):
        for call in [cost(b" ", b"a"), cost(b"a", b"\x7f"), cost(b"ab", b" a"), nth(1, b" "), nth(63, b"\x7f")]:
            with self.subTest(call=call):
                self.assertEqual(answer(call), NO_LETTERS)


class NoneSuch(unittest.TestCase):
    def test_of_cost(self):
        slips = {(b"a", b"b"): 5}
        for typed, meant in [(b"b", b"a"), (b"a", b""), (b"a", b"bb"), (b"aa", b"b"), (b"", b"b"), (b"aaaa", b"bbbb")]:
            with self.subTest(typed=typed, meant=meant):
                self.assertEqual(asked(slips, cost(typed, meant)), [NONE_SUCH])

    def test_of_nth(self):
        slips = {(b"a", b"b"): 5}
        self.assertEqual(asked(slips, nth(1, b"a"), nth(2, b"a"), nth(63, b"a")), [[1, 5, 0x62], NONE_SUCH, NONE_SUCH])
        self.assertEqual(asked(slips, nth(1, b""), nth(1, b"b")), [NONE_SUCH, NONE_SUCH])


class Unchanged(unittest.TestCase):
    REFUSED = [
        (cost(b"a" * 25, b"a"), TOO_GREAT), (cost(b"a", b"a" * 34), TOO_GREAT), (cost(b" ", b"a"), NO_LETTERS),
        (cost(b"a", b" "), NO_LETTERS), (cost(b"t", b"teeee"), NONE_SUCH), (nth(64, b"thi"), TOO_GREAT),
        (nth(0, b"a" * 25), TOO_GREAT), (nth(0, b"th i"), NO_LETTERS), (nth(63, b"thi"), NONE_SUCH),
        (rows(b"a" * 25), TOO_GREAT), (rows(b"th\x7f"), NO_LETTERS), (read(b"5 a a\n"), [-2, 0, 3]),
    ]

    def test_a_refused_call_leaves_the_table(self):
        told_rows = asked({(b"", b"e"): 50}, rows(b"thi"))[0]
        for call, refusal in self.REFUSED:
            with self.subTest(call=call):
                self.assertEqual(told(read(RUN), call, WRITE), [[5], refusal, wrote(RUN_WRITTEN)])
                got = told(read(b"50  e\n"), call, rows(b"thi"), nth(1, b"thi"), cost(b"thi", b"thei"))
                self.assertEqual(got, [[1], refusal, told_rows, row_told(50, b"ethi"), [50]])

    def test_a_refused_call_leaves_an_object_without_slips(self):
        for call, refusal in self.REFUSED:
            with self.subTest(call=call):
                self.assertEqual(told(call, WRITE, rows(b"thi")), [refusal, [0], rows_told((0, b"thi"))])

    def test_each_call_behind_each_refused_one(self):
        answers = told(read(RUN), *[call for call, refusal in self.REFUSED], rows(b"thi"))
        self.assertEqual(answers[1:-1], [refusal for call, refusal in self.REFUSED])
        self.assertEqual(answers[-1], told(read(RUN), rows(b"thi"))[1])


if __name__ == "__main__":
    unittest.main()

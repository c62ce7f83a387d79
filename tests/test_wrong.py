"""What the document says would be wrong, of the rows that may have been meant."""

import itertools
import unittest

from talk import NONE_SUCH, asked, cost, nth, row_told, rows, rows_told

NOTHING = b""


class FourSlips(unittest.TestCase):
    def assert_costs(self, slips, typed, expected):
        """Holds the costs of rows meant by one typed, -5 for those that can't have been."""
        answers = asked(slips, *[cost(typed, meant) for meant in expected])
        self.assertEqual(answers, [[number] for number in expected.values()])

    def test_of_letters_hit_for_others(self):
        expected = {b"aaaa": 0, b"abaa": 1, b"abab": 2, b"babb": 3, b"bbba": 3, b"bbbb": -5}
        self.assert_costs({(b"a", b"b"): 1}, b"aaaa", expected)

    def test_of_letters_left_out(self):
        self.assert_costs({(NOTHING, b"x"): 1}, b"", {b"x": 1, b"xx": 2, b"xxx": 3, b"xxxx": -5})
        self.assert_costs({(NOTHING, b"x"): 1}, b"ab", {b"xaxbx": 3, b"xxxab": 3, b"xaxxbx": -5, b"abxxxx": -5})

    def test_of_letters_typed_too_much(self):
        expected = {b"aaaa": 0, b"aaa": 2, b"aa": 4, b"a": 6, b"": -5}
        self.assert_costs({(b"a", NOTHING): 2}, b"aaaa", expected)

    def test_of_three_letters_each(self):
        self.assert_costs({(NOTHING, b"xyz"): 1}, b"", {b"xyz" * 3: 3, b"xyz" * 4: -5})
        self.assert_costs({(b"abc", NOTHING): 1}, b"abc" * 4, {b"abc": 3, NOTHING: -5})

    def test_of_four_kinds_each_once(self):
        slips = {(b"a", b"b"): 1, (b"cd", b"dc"): 10, (NOTHING, b"e"): 100, (b"f", NOTHING): 1000}
        expected = {
            b"bdcgf": -5, b"bdcef": 111, b"bdc": 1011, b"bcde": 1101, b"adce": 1110, b"bdce": -5, b"acdf": 0,
        }
        self.assert_costs(slips, b"acdf", expected)

    def test_rows_told_have_three_slips_at_most(self):
        told_rows = []
        for letters in itertools.product(b"ab", repeat=4):
            if letters.count(0x62) <= 3:
                told_rows.append((7 * letters.count(0x62), bytes(letters)))
        self.assertEqual(asked({(b"a", b"b"): 7}, rows(b"aaaa")), [rows_told(*sorted(told_rows))])
        self.assertEqual(asked({(b"a", b"b"): 7}, nth(15, b"aaaa")), [NONE_SUCH])


class LeastCost(unittest.TestCase):
    def test_one_slip_is_less_than_two(self):
        slips = {(b"a", b"x"): 10, (b"b", b"y"): 10, (b"ab", b"xy"): 5}
        self.assertEqual(asked(slips, cost(b"ab", b"xy"), nth(1, b"ab")), [[5], row_told(5, b"xy")])

    def test_two_slips_are_less_than_one(self):
        slips = {(b"a", b"x"): 10, (b"b", b"y"): 10, (b"ab", b"xy"): 21}
        self.assertEqual(asked(slips, cost(b"ab", b"xy"), nth(3, b"ab")), [[20], row_told(20, b"xy")])

    def test_three_slips_are_less_than_one(self):
        slips = {(b"a", b"x"): 1, (b"b", b"y"): 1, (b"c", b"z"): 1, (b"abc", b"xyz"): 100}
        self.assertEqual(asked(slips, cost(b"abc", b"xyz"), nth(7, b"abc")), [[3], row_told(3, b"xyz")])

    def test_where_the_cheap_way_begins_dear_and_where_it_ends_dear(self):
        begins = {(b"a", b"xy"): 20, (b"b", b"z"): 1, (b"a", b"x"): 1, (b"b", b"yz"): 30}
        ends = {(b"a", b"xy"): 30, (b"b", b"z"): 1, (b"a", b"x"): 1, (b"b", b"yz"): 20}
        self.assertEqual(asked(begins, cost(b"ab", b"xyz")), [[21]])
        self.assertEqual(asked(ends, cost(b"ab", b"xyz")), [[21]])

    def test_whatever_the_order_of_the_lines(self):
        slips = [((b"a", b"x"), 10), ((b"ab", b"xy"), 17), ((b"b", b"y"), 8), ((NOTHING, b"x"), 3), ((b"a", b""), 4)]
        for lines in itertools.permutations(slips):
            self.assertEqual(asked(dict(lines), cost(b"ab", b"xy")), [[15]])

    def test_a_letter_that_stays_as_it_is_costs_nothing(self):
        slips = {(b"a", b"b"): 5, (b"b", b"a"): 5, (b"ab", b"ba"): 1, (b"a", NOTHING): 1, (NOTHING, b"a"): 1}
        self.assertEqual(asked(slips, cost(b"abab", b"abab"), cost(b"ab", b"ba")), [[0], [1]])

    def test_the_fourth_slip_is_not_taken_for_its_low_cost(self):
        # By a single letter each, "xxxx" would cost 4; so it takes the dear pair.
        slips = {(b"a", b"x"): 1, (b"aa", b"xx"): 50}
        self.assertEqual(asked(slips, cost(b"aaaa", b"xxxx"), cost(b"aaaa", b"xxxa")), [[52], [3]])


class ToldTwice(unittest.TestCase):
    def test_a_row_at_two_costs_is_told_at_the_lesser(self):
        slips = {(b"a", b"b"): 5, (b"aa", b"bb"): 7}
        expected = rows_told((0, b"aa"), (5, b"ab"), (5, b"ba"), (7, b"bb"))
        self.assertEqual(asked(slips, rows(b"aa"), nth(4, b"aa")), [expected, NONE_SUCH])

    def test_a_row_at_one_cost_in_many_ways(self):
        slips = {(NOTHING, b"a"): 5}
        expected = rows_told((0, b"aa"), (5, b"aaa"), (10, b"aaaa"), (15, b"aaaaa"))
        self.assertEqual(asked(slips, rows(b"aa"), nth(4, b"aa")), [expected, NONE_SUCH])

    def test_a_row_by_one_slip_and_by_two(self):
        slips = {(b"a", NOTHING): 3, (NOTHING, b"b"): 4, (b"a", b"b"): 7}
        answer = asked(slips, rows(b"a"))[0]
        self.assertEqual(answer[1:], rows_told(
            (0, b"a"), (3, b""), (4, b"ab"), (4, b"ba"), (7, b"b"),
            (8, b"abb"), (8, b"bab"), (8, b"bba"), (11, b"bb"), (12, b"abbb"), (12, b"babb"), (12, b"bbab"),
            (12, b"bbba"), (15, b"bbb"),
        )[1:])


class NothingTyped(unittest.TestCase):
    def test_at_the_beginning_within_and_at_the_end(self):
        slips = {(NOTHING, b"x"): 9}
        one = [(9, b"abx"), (9, b"axb"), (9, b"xab")]
        two = [(18, b"abxx"), (18, b"axbx"), (18, b"axxb"), (18, b"xabx"), (18, b"xaxb"), (18, b"xxab")]
        three = sorted([(27, bytes(letters)) for letters in set(itertools.permutations(b"abxxx"))
                        if letters.index(0x61) < letters.index(0x62)])
        self.assertEqual(asked(slips, rows(b"ab")), [rows_told((0, b"ab"), *one, *two, *three)])

    def test_in_an_empty_row(self):
        slips = {(NOTHING, b"x"): 9, (NOTHING, b"yz"): 10}
        expected = rows_told(
            (0, b""), (9, b"x"), (10, b"yz"), (18, b"xx"), (19, b"xyz"), (19, b"yzx"), (20, b"yzyz"), (27, b"xxx"),
            (28, b"xxyz"), (28, b"xyzx"), (28, b"yzxx"), (29, b"xyzyz"), (29, b"yzxyz"), (29, b"yzyzx"),
            (30, b"yzyzyz"),
        )
        self.assertEqual(asked(slips, rows(b"")), [expected])

    def test_one_behind_another(self):
        slips = {(NOTHING, b"x"): 1, (NOTHING, b"y"): 10, (NOTHING, b"z"): 100}
        for place in range(3):
            for order in itertools.permutations(b"xyz"):
                meant = b"ab"[:place] + bytes(order) + b"ab"[place:]
                self.assertEqual(asked(slips, cost(b"ab", meant)), [[111]])

    def test_at_the_end_behind_a_slip(self):
        slips = {(b"ab", b"c"): 5, (NOTHING, b"x"): 7, (b"b", NOTHING): 20}
        self.assertEqual(asked(slips, cost(b"ab", b"cx"), cost(b"ab", b"ax"), cost(b"ab", b"xc")), [[12], [27], [12]])

    def test_what_is_left_out_and_what_is_too_much_change_about(self):
        # Nothing is meant by the last letter, then something is where nothing is typed.
        slips = {(b"b", NOTHING): 5, (NOTHING, b"b"): 7}
        self.assertEqual(asked(slips, cost(b"ab", b"ba"), cost(b"ab", b"ab"), cost(b"ab", b"a")), [[12], [0], [5]])


class NothingMeant(unittest.TestCase):
    def test_at_the_beginning_within_and_at_the_end(self):
        slips = {(b"x", NOTHING): 9}
        expected = [[9], [9], [9], [18], [27], NONE_SUCH]
        calls = [cost(b"xab", b"ab"), cost(b"axb", b"ab"), cost(b"abx", b"ab"), cost(b"xabx", b"ab")]
        calls += [cost(b"xxabx", b"ab"), cost(b"xxabxx", b"ab")]
        self.assertEqual(asked(slips, *calls), expected)

    def test_one_behind_another_of_other_lengths(self):
        slips = {(b"a", NOTHING): 1, (b"ab", NOTHING): 10, (b"abc", NOTHING): 100}
        expected = rows_told(
            (0, b"aababc"), (1, b"aabbc"), (1, b"ababc"), (2, b"abbc"), (2, b"babc"), (3, b"bbc"), (10, b"aabc"),
            (11, b"abc"), (12, b"bc"), (20, b"ac"), (21, b"c"), (100, b"aab"), (101, b"ab"), (102, b"b"),
            (110, b"a"), (111, b""),
        )
        self.assertEqual(asked(slips, rows(b"aababc")), [expected])


class WithinWhatWasMeant(unittest.TestCase):
    def assert_none_such(self, slips, typed, meant):
        self.assertEqual(asked(slips, cost(typed, meant)), [NONE_SUCH])

    def test_what_a_slip_meant_is_not_taken_as_typed(self):
        slips = {(b"x", b"y"): 2, (b"y", b"z"): 3}
        self.assertEqual(asked(slips, rows(b"x"), rows(b"y")), [
            rows_told((0, b"x"), (2, b"y")), rows_told((0, b"y"), (3, b"z")),
        ])
        self.assert_none_such(slips, b"x", b"z")

    def test_nor_what_one_meant_that_has_nothing_typed(self):
        slips = {(NOTHING, b"ab"): 5, (b"ab", b"c"): 3}
        expected = rows_told((0, b""), (5, b"ab"), (10, b"abab"), (15, b"ababab"))
        self.assertEqual(asked(slips, rows(b"")), [expected])
        self.assert_none_such(slips, b"", b"c")

    def test_nothing_is_put_into_it(self):
        slips = {(NOTHING, b"ab"): 5, (NOTHING, b"x"): 3}
        self.assertEqual(asked(slips, cost(b"", b"xab"), cost(b"", b"abx")), [[8], [8]])
        self.assert_none_such(slips, b"", b"axb")

    def test_nothing_is_left_out_of_it(self):
        slips = {(NOTHING, b"ab"): 5, (b"b", NOTHING): 3, (b"a", NOTHING): 3}
        self.assert_none_such(slips, b"", b"a")
        self.assert_none_such(slips, b"", b"b")
        # Nor of the letters typed behind it, before it has been meant whole.
        self.assert_none_such({(b"x", b"yz"): 1, (b"w", NOTHING): 1}, b"xw", b"y")

    def test_it_is_not_taken_with_letters_typed_beside_it(self):
        self.assert_none_such({(NOTHING, b"a"): 1, (b"ab", b"c"): 1}, b"b", b"c")
        self.assert_none_such({(NOTHING, b"b"): 1, (b"ab", b"c"): 1}, b"a", b"c")

    def test_letters_typed_are_cut_once(self):
        slips = {(b"ab", b"x"): 1, (b"bc", b"y"): 1}
        self.assert_none_such(slips, b"abc", b"xy")
        self.assertEqual(asked(slips, rows(b"abc")), [rows_told((0, b"abc"), (1, b"ay"), (1, b"xc"))])


class SameCost(unittest.TestCase):
    def test_one_slip_behind_two(self):
        slips = {(b"m", b"z"): 10, (NOTHING, b"a"): 5}
        expected = [(10, b"aam"), (10, b"ama"), (10, b"maa"), (10, b"z")]
        calls = [nth(number, b"m") for number in range(3, 7)]
        self.assertEqual(asked(slips, *calls), [row_told(*row) for row in expected])

    def test_one_slip_ahead_of_two(self):
        slips = {(b"m", b"a"): 10, (NOTHING, b"z"): 5}
        expected = [(10, b"a"), (10, b"mzz"), (10, b"zmz"), (10, b"zzm")]
        calls = [nth(number, b"m") for number in range(3, 7)]
        self.assertEqual(asked(slips, *calls), [row_told(*row) for row in expected])

    def test_three_slips_between_one_and_two(self):
        slips = {(b"a", b"c"): 4, (b"a", b"bb"): 6, (b"aaa", b"a"): 12}
        told_rows = asked(slips, rows(b"aaa"))[0]
        at_12 = rows_told((12, b"a"), (12, b"abbbb"), (12, b"bbabb"), (12, b"bbbba"), (12, b"ccc"))[1:]
        expected = rows_told(
            (0, b"aaa"), (4, b"aac"), (4, b"aca"), (4, b"caa"), (6, b"aabb"), (6, b"abba"), (6, b"bbaa"),
            (8, b"acc"), (8, b"cac"), (8, b"cca"),
            (10, b"abbc"), (10, b"acbb"), (10, b"bbac"), (10, b"bbca"), (10, b"cabb"), (10, b"cbba"),
        )[1:] + at_12
        self.assertEqual(told_rows[1:1 + len(expected)], expected)

    def test_a_beginning_stands_before_what_it_begins(self):
        slips = {(b"b", NOTHING): 5, (NOTHING, b"b"): 5}
        self.assertEqual(asked(slips, nth(0, b"ab"), nth(1, b"ab"), nth(2, b"ab"), nth(3, b"ab"), nth(4, b"ab")), [
            row_told(0, b"ab"), row_told(5, b"a"), row_told(5, b"abb"), row_told(5, b"bab"), row_told(10, b"abbb"),
        ])

    def test_an_empty_row_stands_first_among_those_of_its_cost(self):
        slips = {(b"m", NOTHING): 5, (b"m", b"!"): 5, (b"m", b"!!"): 5, (b"m", b"~"): 5}
        expected = rows_told((0, b"m"), (5, b""), (5, b"!"), (5, b"!!"), (5, b"~"))
        self.assertEqual(asked(slips, rows(b"m")), [expected])

    def test_letters_go_by_their_numbers(self):
        meant = [b"!", b"0", b"9", b"A", b"Z", b"[", b"a", b"z", b"~"]
        slips = {(b"m", letter): 5 for letter in reversed(meant)}
        self.assertEqual(asked(slips, rows(b"m")), [rows_told((0, b"m"), *[(5, letter) for letter in meant])])


class TypedRow(unittest.TestCase):
    def test_it_is_number_0_ahead_of_rows_of_lesser_letters(self):
        slips = {(b"m", b"a"): 1, (b"m", NOTHING): 1, (NOTHING, b"!"): 1}
        for typed in [b"", b"m", b"mm", b"mxm", b"m" * 24]:
            self.assertEqual(asked(slips, nth(0, typed)), [row_told(0, typed)])
            self.assertEqual(asked(slips, rows(typed))[0][1:3 + len(typed)], [0, len(typed)] + list(typed))

    def test_it_is_told_once_though_slips_lead_back_to_it(self):
        slips = {(b"a", b"b"): 1, (b"b", b"a"): 1, (b"ab", b"ba"): 1}
        expected = rows_told((0, b"ab"), (1, b"aa"), (1, b"ba"), (1, b"bb"))
        self.assertEqual(asked(slips, rows(b"ab")), [expected])

    def test_each_letter_may_be_typed_and_meant(self):
        everything = bytes(range(0x21, 0x7F))
        for start in range(0, len(everything), 24):
            typed = everything[start:start + 24]
            self.assertEqual(asked({}, rows(typed), cost(typed, typed)), [rows_told((0, typed)), [0]])


class Dear(unittest.TestCase):
    SLIPS = {(b"a", b"b"): 65535, (b"c", b"d"): 65534, (b"e", NOTHING): 1}

    def test_two_slips(self):
        self.assertEqual(asked(self.SLIPS, cost(b"aa", b"bb"), cost(b"ac", b"bd")), [[131070], [131069]])
        self.assertEqual(asked(self.SLIPS, cost(b"ae", b"b"), cost(b"a", b"b")), [[65536], [65535]])

    def test_three_slips(self):
        expected = rows_told(
            (0, b"aaa"), (65535, b"aab"), (65535, b"aba"), (65535, b"baa"),
            (131070, b"abb"), (131070, b"bab"), (131070, b"bba"), (196605, b"bbb"),
        )
        calls = [cost(b"aaa", b"bbb"), nth(7, b"aaa"), nth(8, b"aaa"), rows(b"aaa")]
        self.assertEqual(asked(self.SLIPS, *calls), [[196605], row_told(196605, b"bbb"), NONE_SUCH, expected])

    def test_dear_rows_are_in_order_by_the_whole_cost(self):
        slips = {(b"a", b"z"): 65535, (b"b", b"!"): 65535, (b"ab", b"~"): 65534}
        expected = rows_told((0, b"ab"), (65534, b"~"), (65535, b"a!"), (65535, b"zb"), (131070, b"z!"))
        self.assertEqual(asked(slips, rows(b"ab")), [expected])


if __name__ == "__main__":
    unittest.main()

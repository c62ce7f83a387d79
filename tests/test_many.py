"""Rows that may have been meant in greater number than 64, and in just that number."""

import itertools
import unittest

from plain import MOST_ROWS, in_order, least_costs
from talk import NONE_SUCH, asked, nth, row_told, rows, rows_told


def hit_for_others(letter, many, cost):
    """Slips from one letter to so many others."""
    return {(letter, bytes([0x30 + place])): cost + place for place in range(many)}


class Many(unittest.TestCase):
    def assert_first(self, slips, typed, least_many):
        """Holds the first rows, by all and by nth at the last number, against the plain reading."""
        ordered = in_order(least_costs(slips, typed))
        self.assertGreaterEqual(len(ordered), least_many)
        first = ordered[:MOST_ROWS]
        numbers = [0, 1, 31, 32, 62, 63]
        by_nth = [row_told(*ordered[number]) for number in numbers]
        calls = [rows(typed)] + [nth(number, typed) for number in numbers]
        self.assertEqual(asked(slips, *calls), [rows_told(*first)] + by_nth)

    def test_63_64_and_65_rows(self):
        for first, second, many in [(6, 8, 63), (7, 7, 64), (4, 12, 65)]:
            slips = {**hit_for_others(b"a", first, 100), **hit_for_others(b"b", second, 300)}
            ordered = in_order(least_costs(slips, b"ab"))
            self.assertEqual(len(ordered), many)
            last = row_told(*ordered[63]) if many > 63 else NONE_SUCH
            calls = [rows(b"ab"), nth(62, b"ab"), nth(63, b"ab")]
            expected = [rows_told(*ordered[:64]), row_told(*ordered[62]), last]
            with self.subTest(many=many):
                self.assertEqual(asked(slips, *calls), expected)

    def test_64_rows_by_three_slips_on_seven_letters(self):
        slips = {(bytes([letter]), bytes([letter - 0x20])): 10 for letter in b"abcdefg"}
        expected = []
        for hit in range(4):
            for places in itertools.combinations(range(7), hit):
                letters = [letter - 0x20 if place in places else letter for place, letter in enumerate(b"abcdefg")]
                expected.append((10 * hit, bytes(letters)))
        self.assertEqual(len(expected), 64)
        expected = sorted(expected)
        calls = [rows(b"abcdefg"), nth(63, b"abcdefg")]
        self.assertEqual(asked(slips, *calls), [rows_told(*expected), row_told(*expected[63])])

    def test_many_rows_of_the_same_cost(self):
        slips = {(b"", bytes([letter])): 5 for letter in b"!Mmz~"}
        self.assert_first(slips, b"mmMaz", 100)

    def test_cheap_rows_that_begin_with_great_letters(self):
        # The 64th is dear, so rows with the least letters don't come first.
        slips = {(b"a", bytes([letter])): 0x7F - letter for letter in range(0x62, 0x7F)}
        self.assert_first(slips, b"aaa", 1000)

    def test_a_long_beginning_in_common_about_the_64th(self):
        typed = b"a" * 20
        # Of one b put in there are 21 rows, of two 231, which all begin alike for long.
        self.assert_first({(b"", b"b"): 5}, typed, 252)
        self.assert_first({(b"", b"b"): 5, (b"a", b"b"): 5}, typed, 252)
        self.assert_first({(b"a", b"b"): 5, (b"a", b"c"): 6}, typed, 252)
        self.assert_first({(b"", b"A"): 5}, typed, 252)
        self.assert_first({(b"aaa", b"aab"): 5, (b"aaa", b"baa"): 5, (b"a", b""): 10}, typed, 100)

    def test_rows_that_are_beginnings_of_others_about_the_64th(self):
        typed = b"abababababab"
        self.assert_first({(b"b", b""): 5, (b"a", b""): 5, (b"", b"a"): 5, (b"", b"b"): 5}, typed, 200)
        self.assert_first({(b"ab", b""): 1, (b"", b"ab"): 1, (b"", b"b"): 2, (b"b", b""): 2}, typed, 100)
        self.assert_first({(b"", b"b"): 5, (b"", b"bb"): 10, (b"", b"bbb"): 15}, typed, 200)

    def test_each_place_of_the_64th_among_rows_that_begin_one_another(self):
        # The rows at cost 7 begin one another; others cheaper push them about the 64th place.
        chain = {(b"m", b""): 7, (b"m", b"a"): 7, (b"m", b"aa"): 7, (b"m", b"aaa"): 7, (b"m", b"aab"): 7}
        for cheaper in range(3, 27):
            slips = {**chain, **{(b"m", bytes([0x41 + place])): 1 for place in range(cheaper)}}
            with self.subTest(cheaper=cheaper):
                self.assert_first(slips, b"mm", 65)

    def test_the_64th_by_three_slips_behind_cheap_ones(self):
        self.assert_first({(b"a", b"x"): 1, (b"b", b"y"): 2, (b"", b"c"): 4, (b"c", b""): 8}, b"abcabcabc", 300)
        self.assert_first({(b"a", b"x"): 1, (b"b", b"y"): 65535, (b"", b"a"): 30000}, b"abbabb", 100)


if __name__ == "__main__":
    unittest.main()

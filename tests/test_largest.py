"""The largest tables and rows that may be handed in: the right answers, and within some seconds."""

import itertools
import time
import unittest

from plain import MOST_ROWS, cuttings
from talk import asked, cost, nth, row_told, rows, rows_told

# A call takes some hundredths of a second; a way that looks at each cutting would take hours.
MOST_SECONDS_A_CALL = 5
MOST_SECONDS_A_LIST = 120


def same_letters():
    """All slips from a row of one letter to another such, of costs that fit no order, and dear ones besides."""
    slips = {}
    for typed, meant in itertools.product(range(4), repeat=2):
        if typed != meant:
            slips[(b"a" * typed, b"a" * meant)] = 1 + 37 * (5 * typed + 3 * meant) % 101
    for place in range(32 - len(slips)):
        slips[(b"", bytes([0x62 + place]))] = 30000
    return slips


def nothing_typed(letters):
    """32 slips with nothing typed, each meaning so many letters, all of one cost."""
    return {(b"", bytes([0x41 + place]) * letters): 7 for place in range(32)}


def mixed():
    """32 slips, some with nothing typed, some with nothing meant, no two of which cost less than one."""
    slips = {}
    letters = b"abcdefgh"
    for place, letter in enumerate(letters):
        other = letters[place - 1]
        slips[(b"", bytes([letter]))] = 100 + 7 * place
        slips[(bytes([letter]), b"")] = 103 + 5 * place
        slips[(bytes([letter, other]), bytes([other, letter]))] = 180 - 3 * place
        slips[(bytes([other, letter]), bytes([letter, other, letter]))] = 150 + place
    return slips


def least_of_one_letter(slips, many):
    """What it costs that so many letters more, or fewer, were meant: the order of such slips tells nothing."""
    changes = [(len(meant) - len(typed), slips[(typed, meant)]) for typed, meant in slips
               if set(typed + meant) == {0x61}]
    least = {}
    for taken in range(4):
        for chosen in itertools.combinations_with_replacement(changes, taken):
            length = many + sum([change for change, slip_cost in chosen])
            whole = sum([slip_cost for change, slip_cost in chosen])
            least[length] = min(whole, least.get(length, whole))
    return least


class Largest(unittest.TestCase):
    def setUp(self):
        self.started = time.perf_counter()

    def assert_within(self, seconds):
        self.assertLess(time.perf_counter() - self.started, seconds)

    def assert_first_by_one_slip(self, slips, typed):
        """Holds the first rows, where 63 may have been meant by a single slip and all of two cost more."""
        least = {}
        for slip_cost, meant in cuttings(slips, typed, 1):
            least[meant] = min(slip_cost, least.get(meant, slip_cost))
        ordered = sorted([(row_cost, row) for row, row_cost in least.items()])[:MOST_ROWS]
        self.assertEqual(len(slips), 32)
        self.assertEqual(len(ordered), MOST_ROWS)
        self.started = time.perf_counter()
        calls = [rows(typed), nth(63, typed), nth(62, typed), nth(1, typed)]
        expected = [rows_told(*ordered), row_told(*ordered[63]), row_told(*ordered[62]), row_told(*ordered[1])]
        self.assertEqual(asked(slips, *calls), expected)
        self.assert_within(4 * MOST_SECONDS_A_CALL)

    def test_32_slips_with_nothing_typed(self):
        for typed in [b"m" * 24, b"ABCDEFGHIJKLMNOPQRSTUVWX", b"~" * 24, b"!" * 24]:
            for letters in range(1, 4):
                with self.subTest(typed=typed, letters=letters):
                    self.assert_first_by_one_slip(nothing_typed(letters), typed)

    def test_32_slips_with_nothing_typed_or_nothing_meant_or_both_told(self):
        for typed in [b"abcdefghhgfedcbaabcdefgh", b"a" * 24, b"hg" * 12]:
            with self.subTest(typed=typed):
                self.assert_first_by_one_slip(mixed(), typed)

    def test_rows_of_one_letter_by_every_slip_on_it(self):
        slips = same_letters()
        least = least_of_one_letter(slips, 24)
        self.assertEqual(sorted(least), list(range(15, 34)))
        cheap = sorted([(row_cost, b"a" * length) for length, row_cost in least.items()])
        self.assertEqual(len(slips), 32)
        answer = asked(slips, rows(b"a" * 24))[0]
        shown = rows_told(*cheap)
        self.assertEqual(answer[0], 64)
        self.assertEqual(answer[1:len(shown)], shown[1:])
        # Behind these come the rows into which one other letter is put.
        others = [meant for typed, meant in slips if meant > b"aaa"]
        dear = [(30000, b"a" * place + other + b"a" * (24 - place)) for place in range(25) for other in others]
        behind = rows_told(*sorted(dear)[:64 - len(cheap)])
        self.assertEqual(answer[len(shown):], behind[1:])
        self.assert_within(MOST_SECONDS_A_CALL)

    def test_costs_of_the_longest_rows_of_one_letter(self):
        slips = same_letters()
        least = least_of_one_letter(slips, 24)
        calls = [cost(b"a" * 24, b"a" * length) for length in range(34)]
        self.assertEqual(asked(slips, *calls), [[least.get(length, -5)] for length in range(34)])
        self.assert_within(34 * MOST_SECONDS_A_CALL)

    def test_the_longest_row_meant(self):
        slips = nothing_typed(3)
        typed = b"ABCDEFGHIJKLMNOPQRSTUVWX"
        meant = b"AAA" + typed[:12] + b"```" + typed[12:] + b"XXX"
        self.assertEqual(len(meant), 33)
        calls = [cost(typed, meant), cost(typed, meant[:32] + b"a"), cost(typed, b"A" * 33)]
        self.assertEqual(asked(slips, *calls), [[21], [-5], [-5]])
        self.assert_within(3 * MOST_SECONDS_A_CALL)

    def test_300_of_the_largest_calls(self):
        typed = b"a" * 24
        for slips in [same_letters(), mixed()]:
            calls = [nth(63, typed), rows(typed), cost(typed, b"a" * 33)]
            once = asked(slips, *calls)
            self.started = time.perf_counter()
            # The read of the table is a call, too.
            self.assertEqual(asked(slips, *(calls * 99 + calls[:2])), once * 99 + once[:2])
            self.assert_within(MOST_SECONDS_A_LIST)


if __name__ == "__main__":
    unittest.main()

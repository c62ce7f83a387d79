"""Small tables and rows, drawn in great number, against a slow and plain reading of the document."""

import random
import unittest

from plain import MOST_ROWS, in_order, least_costs
from talk import NONE_SUCH, asked, cost, nth, row_told, rows, rows_told

# Of few costs, many rows cost as much; of many, few do.
COSTS = [[1], [1, 2], [1, 2, 3, 4, 5, 6], [1, 10, 100, 1000], list(range(1, 65536))]


class Drawn(unittest.TestCase):
    def drawn_row(self, draw, letters, most):
        return bytes([draw.choice(letters) for place in range(draw.randint(0, most))])

    def drawn_slips(self, draw, letters, many):
        slips = {}
        costs = draw.choice(COSTS)
        for attempt in range(many):
            typed = self.drawn_row(draw, letters, 3)
            meant = self.drawn_row(draw, letters, 3)
            if typed != meant:
                slips[(typed, meant)] = draw.choice(costs)
        return slips

    def assert_as_plain(self, slips, typed, other_rows):
        """Holds every number of a row, all of it, and the costs of rows against the plain reading."""
        least = least_costs(slips, typed)
        ordered = in_order(least)
        first = ordered[:MOST_ROWS]
        by_nth = [row_told(*row) for row in first] + [NONE_SUCH] * (MOST_ROWS - len(first))
        asked_rows = [row for told_cost, row in ordered[:100]] + other_rows
        calls = [rows(typed)] + [nth(number, typed) for number in range(MOST_ROWS)]
        calls += [cost(typed, row) for row in asked_rows]
        expected = [rows_told(*first)] + by_nth + [[least.get(row, -5)] for row in asked_rows]
        self.assertEqual(asked(slips, *calls), expected, (slips, typed))

    def assert_draws(self, seed, draws, letters, slips, typed):
        draw = random.Random(seed)
        for number in range(draws):
            few = letters[:draw.randint(1, len(letters))]
            table = self.drawn_slips(draw, few, draw.randint(0, slips))
            row = self.drawn_row(draw, few, typed)
            others = [self.drawn_row(draw, few, len(row) + 4) for other in range(20)]
            self.assert_as_plain(table, row, others)

    def test_tables_of_few_slips(self):
        self.assert_draws("few", 300, b"ab!", 4, 5)

    def test_tables_of_more_slips(self):
        self.assert_draws("more", 150, b"ab~z", 9, 5)

    def test_rows_of_one_letter(self):
        self.assert_draws("one", 100, b"m", 8, 7)

    def test_longer_rows(self):
        self.assert_draws("longer", 40, b"abc", 5, 12)

    def test_many_slips_on_short_rows(self):
        self.assert_draws("many", 60, b"abc", 32, 2)


if __name__ == "__main__":
    unittest.main()

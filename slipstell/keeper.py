"""The object that keeps a table of slips, and what its calls answer."""

from slipstell.letters import are_letters
from slipstell.meant import least_cost, likeliest
from slipstell.tabletext import FaultyText, table_of, text_of

MOST_BYTES = 65536
MOST_TYPED = 24
MOST_MEANT = 33
MOST_ROWS = 64

TOO_GREAT = -1
FAULT = -2
NO_LETTERS = -3
NONE_SUCH = -5


class Keeper:
    """Keeps one table of slips. A call answers a list of numbers; a refused one changes nothing."""

    def __init__(self):
        self.table = {}

    def begin(self):
        """Drops the table."""
        self.table = {}
        return [0]

    def read(self, text):
        """Puts the table that a text tells in the old one's place."""
        if len(text) > MOST_BYTES:
            return [TOO_GREAT]
        try:
            table = table_of(text)
        except FaultyText as fault:
            return [FAULT, fault.line, fault.kind]
        self.table = table
        return [len(table)]

    def write(self):
        """Tells how many bytes the table's text has, then these."""
        text = text_of(self.table)
        return [len(text)] + text

    def cost_of(self, typed, meant):
        """Tells what it costs that a row was meant by a typed one."""
        if len(typed) > MOST_TYPED or len(meant) > MOST_MEANT:
            return [TOO_GREAT]
        if not are_letters(typed) or not are_letters(meant):
            return [NO_LETTERS]
        cost = least_cost(self.table, tuple(typed), meant)
        if cost is None:
            return [NONE_SUCH]
        return [cost]

    def nth_row(self, typed, number):
        """Tells how many letters the row of a number has, what it costs, and its letters."""
        if len(typed) > MOST_TYPED or number >= MOST_ROWS:
            return [TOO_GREAT]
        if not are_letters(typed):
            return [NO_LETTERS]
        rows = likeliest(self.table, tuple(typed), number + 1)
        if number >= len(rows):
            return [NONE_SUCH]
        cost = rows[number][0]
        letters = list(rows[number][1])
        return [len(letters), cost] + letters

    def first_rows(self, typed):
        """Tells how many rows a typed one may have meant, then each: its cost, how many letters, they."""
        if len(typed) > MOST_TYPED:
            return [TOO_GREAT]
        if not are_letters(typed):
            return [NO_LETTERS]
        rows = likeliest(self.table, tuple(typed), MOST_ROWS)
        told = [len(rows)]
        for cost, letters in rows:
            told.extend([cost, len(letters)])
            told.extend(letters)
        return told

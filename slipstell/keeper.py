"""The object that keeps a table of slips, and what its calls answer."""

from slipstell.tabletext import FaultyText, table_of, text_of

MOST_BYTES = 65536

TOO_LONG = -1
FAULT = -2


class Keeper:
    """Keeps one table of slips. A call answers a list of numbers; a refused one changes nothing."""

    def __init__(self):
        self.table = {}

    def begin(self):
        """Drops the table."""
        self.table = {}
        return [0]

    def read(self, text):
        """Puts the table that a text tells in the old one's place."""
        if len(text) > MOST_BYTES:
            return [TOO_LONG]
        try:
            table = table_of(text)
        except FaultyText as fault:
            return [FAULT, fault.line, fault.kind]
        self.table = table
        return [len(table)]

    def write(self):
        """Tells how many bytes the table's text has, then these."""
        text = text_of(self.table)
        return [len(text)] + text

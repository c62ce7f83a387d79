"""A table's text: its slips read from it, its fault told, and its lines written.

A table is a dict: under each pair of letters typed and letters meant, both
tuples of numbers, stands the slip's cost.
"""

from slipstell.letters import are_letters

LINE_FEED = 0x0A
BLANK = 0x20
DIGIT_ZERO = 0x30
DIGIT_NINE = 0x39

MOST_COST = 65535
MOST_COST_DIGITS = 5
MOST_LETTERS = 3
MOST_SLIPS = 32

NO_FAULT = 0
NO_SUCH_LINE = 1
TOO_MUCH = 2
SAME_LETTERS = 3
TOLD_BEFORE = 4
ONE_LINE_TOO_MANY = 5


class FaultyText(Exception):
    """A text that tells no table: its first wrong line, and the least kind of fault there."""

    def __init__(self, line, kind):
        self.line = line
        self.kind = kind


def table_of(text):
    """The table that a text tells, or FaultyText."""
    lines = parted(text, LINE_FEED)
    # Each line has its line feed behind it, so what is left behind the last one is no line.
    remainder = lines.pop()
    table = {}
    for place, line in enumerate(lines):
        parts = parted(line, BLANK)
        kind = kind_of_fault(parts, table)
        if kind != NO_FAULT:
            raise FaultyText(place, kind)
        table[(parts[1], parts[2])] = number_of(parts[0])
    if len(remainder) > 0:
        raise FaultyText(len(lines), NO_SUCH_LINE)
    return table


def parted(row, mark):
    """The parts of a row before, between and behind its marks, as tuples: one more than marks."""
    parts = []
    part = []
    for number in row:
        if number == mark:
            parts.append(tuple(part))
            part = []
        else:
            part.append(number)
    parts.append(tuple(part))
    return parts


def kind_of_fault(parts, table):
    """The least kind of fault of a line, given as its parts, behind the lines of a table."""
    if not is_line(parts):
        return NO_SUCH_LINE
    typed = parts[1]
    meant = parts[2]
    if is_too_costly(parts[0]) or len(typed) > MOST_LETTERS or len(meant) > MOST_LETTERS:
        return TOO_MUCH
    if typed == meant:
        return SAME_LETTERS
    if (typed, meant) in table:
        return TOLD_BEFORE
    if len(table) >= MOST_SLIPS:
        return ONE_LINE_TOO_MANY
    return NO_FAULT


def is_line(parts):
    """Whether parts are a cost in decimal, letters typed and letters meant, of any size."""
    if len(parts) != 3:
        return False
    return is_decimal(parts[0]) and are_letters(parts[1]) and are_letters(parts[2])


def is_decimal(row):
    """Whether a row is one of digits, at least one, and the first of them not 0."""
    for number in row:
        if number < DIGIT_ZERO or number > DIGIT_NINE:
            return False
    return len(row) > 0 and row[0] != DIGIT_ZERO


def is_too_costly(digits):
    """Whether the number that digits tell, the first of them not 0, is above every cost."""
    # A row of digits may be as long as a text: its length is asked before its number is made.
    return len(digits) > MOST_COST_DIGITS or number_of(digits) > MOST_COST


def number_of(digits):
    """The number that a row of digits tells."""
    number = 0
    for digit in digits:
        number = number * 10 + digit - DIGIT_ZERO
    return number


def text_of(table):
    """The text that tells a table: one text, in whatever order its slips came."""
    text = []
    # Tuples compare as rows do: at the first difference, a beginning before what it begins.
    for pair in sorted(table):
        text.extend(line_of(pair[0], pair[1], table[pair]))
    return text


def line_of(typed, meant, cost):
    """The line that tells a slip, with the line feed behind it."""
    digits = [ord(sign) for sign in str(cost)]
    return digits + [BLANK] + list(typed) + [BLANK] + list(meant) + [LINE_FEED]

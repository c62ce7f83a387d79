"""Calls to the desk as numbers, and its answers taken apart again."""

from slipstell.desk import answers

BEGIN = [1]
WRITE = [3]

RUN_LINES = [b"30 e i\n", b"40 ht th\n", b"50  e\n", b"60 s \n", b"45 i e\n"]
RUN_WRITTEN = b"50  e\n30 e i\n40 ht th\n45 i e\n60 s \n"


def read(text):
    """The numbers of a call of read."""
    return [2, len(text)] + list(text)


def wrote(text):
    """What write answers where the table's text is this."""
    return [len(text)] + list(text)


def told(*calls):
    """What the desk answers to calls on one new object: a list a call."""
    numbers = answers([number for call in calls for number in call])
    parts = []
    while numbers:
        many = numbers[0]
        assert len(numbers) > many, "an answer is shorter than its count"
        parts.append(numbers[1:1 + many])
        numbers = numbers[1 + many:]
    return parts


def outcome(text):
    """What a new object answers to one text."""
    return told(read(text))[0]


def slip_lines(many):
    """As many right lines, no two with the same letters, in the order in which they are written."""
    return [b"%d %c %c%c\n" % (1 + place, 0x41, 0x61 + place // 20, 0x61 + place % 20) for place in range(many)]

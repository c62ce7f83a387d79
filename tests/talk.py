"""Calls to the desk as numbers, and its answers taken apart again."""

from slipstell.desk import answers

BEGIN = [1]
WRITE = [3]

RUN_LINES = [b"30 e i\n", b"40 ht th\n", b"50  e\n", b"60 s \n", b"45 i e\n"]
RUN_WRITTEN = b"50  e\n30 e i\n40 ht th\n45 i e\n60 s \n"
RUN = b"".join(RUN_LINES)

TOO_GREAT = [-1]
NO_LETTERS = [-3]
NONE_SUCH = [-5]


def read(text):
    """The numbers of a call of read."""
    return [2, len(text)] + list(text)


def cost(typed, meant):
    """The numbers of a call of cost."""
    return [4, len(typed)] + list(typed) + [len(meant)] + list(meant)


def nth(number, typed):
    """The numbers of a call of nth."""
    return [5, number, len(typed)] + list(typed)


def rows(typed):
    """The numbers of a call of all."""
    return [6, len(typed)] + list(typed)


def wrote(text):
    """What write answers where the table's text is this."""
    return [len(text)] + list(text)


def row_told(row_cost, letters):
    """What nth answers where its row costs this and has these letters."""
    return [len(letters), row_cost] + list(letters)


def rows_told(*pairs):
    """What all answers where the rows, each with its cost ahead, are these."""
    numbers = [len(pairs)]
    for row_cost, letters in pairs:
        numbers += [row_cost, len(letters)] + list(letters)
    return numbers


def told(*calls):
    """What the desk answers to calls on one new object: a list a call."""
    numbers = answers([number for call in calls for number in call])
    parts = []
    while numbers:
        many = numbers[0]
        assert len(numbers) > many, "an answer is shorter than its count"
        parts.append(numbers[1:1 + many])
        numbers = numbers[1 + many:]
    return parts


def outcome(text):
    """What a new object answers to one text."""
    return told(read(text))[0]


def slip_lines(many):
    """As many right lines, no two with the same letters, in the order in which they are written."""
    return [b"%d %c %c%c\n" % (1 + place, 0x41, 0x61 + place // 20, 0x61 + place % 20) for place in range(many)]


def text_of(slips):
    """The text of a table, from a dict of costs under pairs of letters typed and meant."""
    return b"".join([b"%d %s %s\n" % (slips[pair], pair[0], pair[1]) for pair in slips])


def asked(slips, *calls):
    """What calls answer behind the read of a table that is right."""
    answer = told(read(text_of(slips)), *calls)
    assert answer[0] == [len(slips)], "the table is not read: %r" % answer[0]
    return answer[1:]

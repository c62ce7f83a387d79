"""What a typed row may have meant, and what it costs to think so."""

from slipstell.ways import Ways

# Three slips, each at the most that one may cost.
DEAREST = 196605


class Beginning:
    """Letters that rows meant begin with, or one such row whole; the least that any of these costs."""

    def __init__(self, cost, letters, tracks, whole):
        self.cost = cost
        self.letters = letters
        self.tracks = tracks
        self.whole = whole


def least_cost(table, typed, meant):
    """What it costs that a row was meant by a typed one; None if it can't have been."""
    ways = Ways(table, typed)
    tracks = ways.settled(ways.first(), DEAREST)
    for letter in meant:
        further = ways.onward(tracks, DEAREST).get(letter, [])
        tracks = ways.settled(further, DEAREST)
    return ways.whole_cost(tracks)


def likeliest(table, typed, many):
    """The first rows that a typed one may have meant, so many at most: of each its cost and letters."""
    ways = Ways(table, typed)
    found = [Beginning(0, (), ways.first(), False)]
    dearest = DEAREST
    while any([not beginning.whole for beginning in found]):
        longer = []
        for beginning in found:
            longer.extend(lengthened(ways, beginning, dearest))
        # Each beginning has a row at its own cost, no two have a row in common, and this row stands
        # ahead of all rows of the beginnings behind: so the first ones hold all rows asked for.
        found = sorted(longer, key=order_of)[:many]
        if len(found) == many:
            dearest = found[-1].cost
    return [(beginning.cost, beginning.letters) for beginning in found]


def order_of(beginning):
    """What the order goes by: the cost, then the letters."""
    return (beginning.cost, beginning.letters)


def lengthened(ways, beginning, dearest):
    """A beginning in parts: itself, if it is a row whole, and itself with each letter that may come."""
    if beginning.whole:
        return [beginning]
    tracks = ways.settled(beginning.tracks, dearest)
    parts = []
    cost = ways.whole_cost(tracks)
    if cost is not None:
        parts.append(Beginning(cost, beginning.letters, [], True))
    for letter, further in ways.onward(tracks, dearest).items():
        least = min([track[0] for track in further])
        parts.append(Beginning(least, beginning.letters + (letter,), further, False))
    return parts

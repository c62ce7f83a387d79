"""Cuttings of a typed row, followed from letter to letter of what was meant.

A track is what counts of a cutting so far, as a tuple: what its slips cost,
how many they are, up to which place the typed row is cut, and the letters
that its last slip meant and that are still to come.
"""

MOST_TAKEN = 3


class Ways:
    """The ways through one typed row that a table of slips leaves open to tracks."""

    def __init__(self, table, typed):
        self.length = len(typed)
        self.moves = []
        self.drops = []
        for place in range(len(typed) + 1):
            fitting = fitting_slips(table, typed, place)
            self.moves.append(moves_at(fitting, typed, place))
            self.drops.append([(cost, after) for cost, after, meant in fitting if len(meant) == 0])

    def first(self):
        """The one track ahead of every letter, typed or meant."""
        return [(0, 0, 0, ())]

    def settled(self, tracks, dearest):
        """The tracks, and what slips meaning nothing make of them: none too dear, none in vain."""
        by_taken = [[] for taken in range(MOST_TAKEN + 1)]
        for track in tracks:
            by_taken[track[1]].append(track)
        least = {}
        kept = []
        for taken in range(MOST_TAKEN + 1):
            cheapest_first = sorted(by_taken[taken])
            for track in cheapest_first:
                cost = track[0]
                reached = track[2:]
                # What a track with no more slips reaches at no more cost is reached in vain.
                if cost > dearest or least.get(reached, dearest + 1) <= cost:
                    continue
                least[reached] = cost
                kept.append(track)
                if taken < MOST_TAKEN:
                    by_taken[taken + 1].extend(self.dropped(track))
        return kept

    def dropped(self, track):
        """What one more slip, that means nothing, makes of a track."""
        # Pieces stand one behind another: within what a slip meant there is no place for the next.
        if len(track[3]) > 0:
            return []
        return [(track[0] + cost, track[1] + 1, after, ()) for cost, after in self.drops[track[2]]]

    def onward(self, tracks, dearest):
        """Under each letter that may be meant next, what it makes of the tracks, none too dear."""
        found = {}
        for cost, taken, place, coming in tracks:
            if len(coming) > 0:
                found.setdefault(coming[0], []).append((cost, taken, place, coming[1:]))
                continue
            for added, slips, letter, after, behind in self.moves[place]:
                if cost + added > dearest:
                    break
                if taken + slips <= MOST_TAKEN:
                    found.setdefault(letter, []).append((cost + added, taken + slips, after, behind))
        return found

    def whole_cost(self, tracks):
        """The least cost of those tracks that are cuttings of the whole row; None without any."""
        return min([track[0] for track in tracks if track[2:] == (self.length, ())], default=None)


def fitting_slips(table, typed, place):
    """The slips whose letters typed stand at a place: cost, place behind these, letters meant."""
    fitting = []
    for pair in table:
        after = place + len(pair[0])
        if typed[place:after] == pair[0]:
            fitting.append((table[pair], after, pair[1]))
    return fitting


def moves_at(fitting, typed, place):
    """The pieces from a place on that mean a letter, the cheapest first.

    Of each: what it costs, how many slips it is, the first letter meant, the
    place behind the letters typed, and the letters meant behind the first.
    """
    moves = [(cost, 1, meant[0], after, meant[1:]) for cost, after, meant in fitting if len(meant) > 0]
    if place < len(typed):
        moves.append((0, 0, typed[place], place + 1, ()))
    return sorted(moves)

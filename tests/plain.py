"""A slow and plain reading of what a row may have meant: every cutting, one behind another."""

MOST_SLIPS = 3
MOST_ROWS = 64


def cuttings(slips, typed, left=MOST_SLIPS):
    """Of every cutting with so many slips at most, what it costs and the row it means."""
    if typed == b"":
        yield 0, b""
    else:
        for cost, meant in cuttings(slips, typed[1:], left):
            yield cost, typed[:1] + meant
    if left == 0:
        return
    for (slip_typed, slip_meant), slip_cost in slips.items():
        if typed.startswith(slip_typed):
            for cost, meant in cuttings(slips, typed[len(slip_typed):], left - 1):
                yield slip_cost + cost, slip_meant + meant


def least_costs(slips, typed):
    """Under each row that may have been meant, the least that any cutting costs."""
    least = {}
    for cost, meant in cuttings(slips, typed):
        least[meant] = min(cost, least.get(meant, cost))
    return least


def in_order(least):
    """All rows that may have been meant, each behind its cost: by cost, then by the order of rows."""
    return sorted([(cost, meant) for meant, cost in least.items()])

"""The desk: a list of calls on one new object, and the list of what they answer."""

from slipstell.feed import Feed
from slipstell.keeper import Keeper

BEGIN = 1
READ = 2
WRITE = 3
COST = 4
NTH = 5
ALL = 6


class UnknownCall(ValueError):
    """A call's number that the desk has no call for."""


def answers(calls):
    """What the calls answer, call by call, each answer with how many numbers it has before it."""
    keeper = Keeper()
    feed = Feed(calls)
    told = []
    while not feed.ended():
        answer = answer_of(keeper, feed)
        told.append(len(answer))
        told.extend(answer)
    return told


def answer_of(keeper, feed):
    """What the keeper answers to the call that comes next in the feed."""
    call = feed.number()
    if call == BEGIN:
        return keeper.begin()
    if call == READ:
        return keeper.read(feed.row())
    if call == WRITE:
        return keeper.write()
    if call == COST:
        typed = feed.row()
        return keeper.cost_of(typed, feed.row())
    if call == NTH:
        number = feed.number()
        return keeper.nth_row(feed.row(), number)
    if call == ALL:
        return keeper.first_rows(feed.row())
    raise UnknownCall(call)

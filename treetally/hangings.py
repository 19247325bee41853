"""Hangings: what is one, and all of them in order."""

from itertools import combinations

from treetally.errors import TooMany
from treetally.nets import hangs, is_whole, need_net
from treetally.tallies import tally


def is_hanging(many, ties, some):
    """Tell whether anything that is handed in as some is a hanging of a net."""
    need_net(many, ties)
    if type(some) is not list or len(some) != many - 1:
        return False
    least = 0
    for tie in some:
        if not is_whole(tie, least, len(ties) - 1):
            return False
        least = tie + 1
    return _joins(many, ties, some)


def all_hangings(many, ties, most):
    """Tell all hangings of a net in order, where there are no more than most."""
    if tally(many, ties) > most:
        raise TooMany("the net has more hangings than are wished")
    return [some for some in _rising_lists(len(ties), many - 1) if _joins(many, ties, some)]


def _joins(many, ties, some):
    """Tell whether all places hang together by one tie less than there are places."""
    # Each tie makes one part of two at most, so that none of them is to spare.
    return hangs(many, [ties[tie] for tie in some])


def _rising_lists(count, size):
    """Tell all rising lists of so many numbers below count, in the order of lists."""
    return [list(some) for some in combinations(range(count), size)]

"""In how many hangings each tie stands."""

from treetally.nets import need_net
from treetally.tallies import tally_with


def standing(many, ties):
    """Tell for each tie of a net in how many hangings it stands."""
    need_net(many, ties)
    return [tally_with(many, ties, tie) for tie in range(len(ties))]

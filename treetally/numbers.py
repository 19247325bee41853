"""The numbers of hangings in the order of lists."""

from treetally.errors import BadHanging, BadNumber
from treetally.hangings import is_hanging
from treetally.nets import is_whole, net_together, net_without
from treetally.tallies import tally, tally_with

# Of the hangings of a net those with its first tie stand ahead of those without
# it. So the ties are gone through from the first one on, each time in the net
# that is left: drawn together along the tie where it stands in the hanging,
# without it where it does not. This spares telling all hangings.


def hanging_of(many, ties, number):
    """Tell the hanging of a net that has that number."""
    if not is_whole(number, 0, tally(many, ties) - 1):
        raise BadNumber("the net has no hanging with that number")
    some = []
    ahead = number
    rest = ties
    for tie in range(len(ties)):
        share = tally_with(many, rest, 0)
        if ahead < share:
            some.append(tie)
            many, rest = net_together(many, rest, 0)
        else:
            ahead -= share
            rest = net_without(many, rest, 0)
    return some


def number_of(many, ties, some):
    """Tell the number of a hanging of a net."""
    if not is_hanging(many, ties, some):
        raise BadHanging("this is no hanging of the net")
    number = 0
    rest = ties
    for tie in range(len(ties)):
        if tie in some:
            many, rest = net_together(many, rest, 0)
        else:
            number += tally_with(many, rest, 0)
            rest = net_without(many, rest, 0)
    return number

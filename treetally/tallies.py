"""The table of a net, and its tally: how many hangings it has."""

from treetally.nets import need_net, net_together
from treetally.worths import worth_of


def table_of(many, ties):
    """Tell the table of a net: a row for each place, with a number for each place in it."""
    need_net(many, ties)
    table = [[0] * many for _ in range(many)]
    for one, other in ties:
        if one != other:
            table[one][one] += 1
            table[other][other] += 1
            table[one][other] -= 1
            table[other][one] -= 1
    return table


def tally(many, ties):
    """Tell how many hangings a net has."""
    table = table_of(many, ties)
    # Any place may be left out; the last one is as good as each other one.
    return worth_of([row[:-1] for row in table[:-1]])


def tally_with(many, ties, tie):
    """Tell in how many hangings of a net the tie with that number stands."""
    one, other = ties[tie]
    if one == other:
        return 0
    fewer, drawn = net_together(many, ties, tie)
    return tally(fewer, drawn)

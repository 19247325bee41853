"""Nets: what is one, which of its places hang together, and nets made of it."""

from treetally.errors import BadNet, BadTie, SelfTie

MOST_PLACES = 7
MOST_TIES = 16


def is_whole(value, least, most):
    """Tell whether anything that is handed in is a whole number from least to most."""
    # The very kind is asked for: True is an integer to Python, and other
    # things could call themselves one and then fail when they are compared.
    return type(value) is int and least <= value <= most


def need_net(many, ties):
    """Refuse with BadNet what is no net."""
    if not is_whole(many, 1, MOST_PLACES):
        raise BadNet("how many places there are is no whole number from 1 to 7")
    if type(ties) is not list or len(ties) > MOST_TIES:
        raise BadNet("the ties are no list of none to 16 ties")
    for tie in ties:
        if not _is_tie(many, tie):
            raise BadNet("a tie is no tuple of two places of the net")


def parts_of(many, ties):
    """Tell the parts of a net, each a rising list of places, by their least places."""
    need_net(many, ties)
    leasts = list(range(many))
    for one, other in ties:
        low = min(leasts[one], leasts[other])
        high = max(leasts[one], leasts[other])
        leasts = [low if least == high else least for least in leasts]
    starts = [place for place in range(many) if leasts[place] == place]
    return [[place for place in range(many) if leasts[place] == start] for start in starts]


def hangs(many, ties):
    """Tell whether a net hangs together."""
    return len(parts_of(many, ties)) == 1


def net_without(many, ties, tie):
    """Tell the ties of a net without the tie with that number."""
    _need_tie(many, ties, tie)
    return ties[:tie] + ties[tie + 1:]


def net_together(many, ties, tie):
    """Tell how many places, and which ties, a net has when it is drawn together along a tie."""
    rest = net_without(many, ties, tie)
    low = min(ties[tie])
    high = max(ties[tie])
    if low == high:
        raise SelfTie("the tie leads from a place to itself")
    return (many - 1, [(_moved(one, low, high), _moved(other, low, high)) for one, other in rest])


def _is_tie(many, tie):
    if type(tie) is not tuple or len(tie) != 2:
        return False
    return is_whole(tie[0], 0, many - 1) and is_whole(tie[1], 0, many - 1)


def _need_tie(many, ties, tie):
    need_net(many, ties)
    if not is_whole(tie, 0, len(ties) - 1):
        raise BadTie("the net has no tie with that number")


def _moved(place, low, high):
    """Tell the number of a place when the place high has become the place low."""
    if place == high:
        return low
    if place > high:
        return place - 1
    return place

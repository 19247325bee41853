"""Ways from one hanging to another by exchanges of ties."""

from treetally.errors import BadHanging
from treetally.hangings import is_hanging


def exchanges(many, ties, one, other):
    """Tell the hangings on a shortest way from one to other, both ends among them."""
    if not is_hanging(many, ties, one) or not is_hanging(many, ties, other):
        raise BadHanging("one of both is no hanging of the net")
    way = [list(one)]
    for tie in other:
        if tie not in one:
            way.append(_with_tie(many, ties, way[-1], tie, other))
    return way


def _with_tie(many, ties, some, tie, other):
    """Tell a hanging that has this tie of other, and lacks a tie of some that other lacks."""
    # With the new tie there is a round of ties. The hanging other has no round,
    # so that it lacks one of these, and without that one there is a hanging.
    choices = [_exchanged(some, old, tie) for old in some if old not in other]
    return [choice for choice in choices if is_hanging(many, ties, choice)][0]


def _exchanged(some, old, new):
    return sorted([tie for tie in some if tie != old] + [new])

"""The refusals of the program."""


class NetError(ValueError):
    """Any refusal."""


class BadNet(NetError):
    """What was handed in is no net."""


class BadTie(NetError):
    """What was handed in is no number of a tie of the net."""


class SelfTie(NetError):
    """A net cannot be drawn together along a tie from a place to itself."""


class BadHanging(NetError):
    """What was handed in is no hanging of the net."""


class BadNumber(NetError):
    """What was handed in is no number of a hanging of the net."""


class TooMany(NetError):
    """The net has more hangings than are wished."""

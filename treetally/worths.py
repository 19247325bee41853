"""The worth of a table of whole numbers."""


def worth_of(rows):
    """Tell the worth of a table that has as many numbers in each row as it has rows."""
    return _worth_of_rest(rows, tuple(range(len(rows))), {})


def _worth_of_rest(rows, places, known):
    """Tell the worth of the last rows, as many as there are places, with these places alone."""
    if len(places) == 0:
        return 1
    # The same rest is left over in many ways; kept in known, it is worked out
    # once, so that eight rows take some hundred steps and not some ten thousand.
    if places not in known:
        known[places] = _worth_by_first_row(rows, places, known)
    return known[places]


def _worth_by_first_row(rows, places, known):
    first = rows[len(rows) - len(places)]
    worth = 0
    for at, place in enumerate(places):
        rest = places[:at] + places[at + 1:]
        share = first[place] * _worth_of_rest(rows, rest, known)
        if at % 2 == 0:
            worth += share
        else:
            worth -= share
    return worth

"""What several tests need: nets to try, wrong things, and how a refusal is looked at."""

import unittest
from copy import deepcopy
from itertools import combinations, combinations_with_replacement, product

from treetally import errors

OWN_ERRORS = (
    errors.BadNet,
    errors.BadTie,
    errors.SelfTie,
    errors.BadHanging,
    errors.BadNumber,
    errors.TooMany,
)


def ring(many):
    return [(place, (place + 1) % many) for place in range(many)]


def every_pair(many):
    return list(combinations(range(many), 2))


def wheel(many):
    """A ring and one more place that has a tie to each place of the ring."""
    return ring(many) + [(many, place) for place in range(many)]


# Each net is how many places, the ties, and the tally where it is known from elsewhere.
KNOWN_NETS = [
    (1, [], 1),
    (1, [(0, 0)], 1),
    (1, [(0, 0)] * 16, 1),
    (2, [], 0),
    (2, [(0, 0), (1, 1)], 0),
    (2, [(1, 0)], 1),
    (2, [(0, 1)] * 16, 16),
    (2, [(0, 1), (1, 0), (0, 1), (1, 1)], 3),
    (3, [(0, 1), (0, 1), (1, 2), (2, 1), (2, 1)], 6),
    (3, ring(3), 3),
    (4, every_pair(4), 16),
    (4, every_pair(4) + [(2, 2)], 16),
    (4, [(0, 1), (2, 3)], 0),
    (5, every_pair(5), 125),
    (5, every_pair(4), 0),
    (6, every_pair(6), 1296),
    (6, [(one, other) for one in range(3) for other in range(3, 6)], 81),
    (7, [], 0),
    (7, ring(7), 7),
    (7, ring(7)[:6], 1),
    (7, ring(6), 0),
    (7, wheel(6), 320),
]

# Sixteen ties on seven places, some of them alike and one from a place to itself.
FULL_NET = (7, wheel(6) + [(0, 3), (3, 0), (2, 2), (5, 1)])

BROKEN_NET = (6, [(5, 2), (4, 0), (2, 5), (3, 3), (0, 4)])


def tiny_nets():
    """Every net of up to three places and three ties, whichever way round, in one order."""
    for many in (1, 2, 3):
        pairs = list(product(range(many), repeat=2))
        for size in range(4):
            for ties in combinations_with_replacement(pairs, size):
                yield many, list(ties)


def nets():
    for many, ties, _ in KNOWN_NETS:
        yield many, list(ties)
    yield FULL_NET[0], list(FULL_NET[1])
    yield BROKEN_NET[0], list(BROKEN_NET[1])
    yield from tiny_nets()


def reached(many, ties):
    """For each place the places that hang together with it, found by going along ties."""
    found = []
    for start in range(many):
        seen = {start}
        while True:
            further = {b for a, b in ties if a in seen} | {a for a, b in ties if b in seen}
            if further <= seen:
                break
            seen |= further
        found.append(seen)
    return found


def count_of_hangings(many, ties):
    """Count the hangings straight by [3]: enough ties, and none of them to spare."""

    def joins(some):
        return len(reached(many, [ties[tie] for tie in some])[0]) == many

    count = 0
    for size in range(len(ties) + 1):
        for some in combinations(range(len(ties)), size):
            fewer = (some[:at] + some[at + 1:] for at in range(size))
            if joins(some) and not any(joins(less) for less in fewer):
                count += 1
    return count


def picked_count(many, ties):
    """Count the hangings of a larger net: one tie less than places, by which all hang together."""
    some = combinations(ties, many - 1)
    return sum(len(reached(many, list(these))[0]) == many for these in some)


class Thorn:
    """Nothing can be asked of it, and it calls itself an integer."""

    @property
    def __class__(self):
        return int

    def _refuse(self, *rest):
        raise RuntimeError("asked")

    __eq__ = __ne__ = __lt__ = __le__ = __gt__ = __ge__ = _refuse
    __len__ = __iter__ = __bool__ = __index__ = __int__ = __hash__ = _refuse
    __repr__ = __str__ = __getitem__ = __contains__ = _refuse


def _own_lists():
    own = []
    own.append(own)
    return own


WRONG_MANY = [
    0, 8, -1, -7, 10 ** 5000, True, False, None, "", "3", b"3", [], [3], (3,), {}, {3}, 3.0,
    float("nan"), 3j, range(3), int, Thorn(),
]
WRONG_TIES = [
    None, 0, 1, True, "", "01", b"", (), ((0, 1),), {}, {(0, 1)}, {(0, 1): 1}, range(0), iter([]),
    list, Thorn(), [(0, 1)] * 17, [(0, 0)] * 100,
]
# For a net of three places.
WRONG_TIE = [
    None, 0, True, "01", b"01", "", [0, 1], [], {}, {0, 1}, (), (0,), (0, 1, 2), ((0, 1),), (0, 3),
    (3, 0), (0, 10 ** 5000), (0, -1), (-1, 0), (0, True), (True, 0), (False, 0), (False, False),
    (0, None), (None, None), ("0", "1"), (0, "1"), (0, 1.0), (0.0, 1), (0, (1,)), (0, [1]),
    range(2), Thorn(), (0, Thorn()), (Thorn(), 0), _own_lists(),
]


def wrong_nets():
    for many in WRONG_MANY:
        yield many, [(0, 0)]
        yield many, []
        yield many, None
    for ties in WRONG_TIES:
        yield 3, ties
        yield None, ties
    for tie in WRONG_TIE:
        yield 3, [tie]
        yield 3, [(0, 1)] * 15 + [tie]
        yield 3, [tie, (1, 2), (2, 2)]
    yield 3, _own_lists()
    yield 1, [(0, 1)]
    yield 7, [(6, 7)]


def wrong_numbers(size):
    """What is no number of one of so many things."""
    return [
        size, size + 1, -1, -size, -size - 1, 10 ** 5000, -10 ** 5000, True, False, None, "", "0",
        b"0", [], [0], (), (0,), {}, {0}, 0.0, float("nan"), slice(0, 1), Thorn(),
    ]


class NetCase(unittest.TestCase):
    def assert_refused(self, error, call, *handed):
        """Look that a call is refused with just this error, and with no other one's name."""
        try:
            told = call(*handed)
        except errors.NetError as caught:
            self.assertIs(type(caught), error)
            self.assertIsInstance(caught, ValueError)
            for other in OWN_ERRORS:
                self.assertEqual(isinstance(caught, other), other is error)
        else:
            self.fail(f"{call.__name__} refused nothing and told {told!r}")

    def assert_keeps_handed(self, call, *handed):
        """Look that a call leaves all that it is handed as it was, also when it refuses."""
        before = deepcopy(handed)
        items = [list(map(id, thing)) for thing in handed if isinstance(thing, list)]
        try:
            call(*handed)
        except errors.NetError:
            pass
        self.assertEqual(handed, before)
        self.assertEqual(
            [list(map(id, thing)) for thing in handed if isinstance(thing, list)], items
        )

    def assert_tells_anew(self, call, *handed):
        """Look that a change of an answer changes neither what is handed in nor a later answer."""
        handed_before = deepcopy(handed)
        first = call(*handed)
        kept = call(*handed)
        right = deepcopy(first)
        _spoil(first)
        self.assertEqual(handed, handed_before)
        self.assertEqual(kept, right)
        self.assertEqual(call(*handed), right)


def _spoil(answer):
    """Change all in an answer that can be changed."""
    if isinstance(answer, (list, tuple)):
        for part in answer:
            _spoil(part)
    if isinstance(answer, list):
        answer.reverse()
        answer.append("spoilt")
        answer[0] = "spoilt"

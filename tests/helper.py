"""What several tests need: nets to try, wrong things, and how a refusal is looked at."""

import unittest
from copy import deepcopy
from itertools import combinations, combinations_with_replacement, product
from random import Random

from treetally import errors

OWN_ERRORS = (
    errors.BadNet,
    errors.BadTie,
    errors.SelfTie,
    errors.BadHanging,
    errors.BadNumber,
    errors.TooMany,
)


def ring(many):
    return [(place, (place + 1) % many) for place in range(many)]


def every_pair(many):
    return list(combinations(range(many), 2))


def wheel(many):
    """A ring and one more place that has a tie to each place of the ring."""
    return ring(many) + [(many, place) for place in range(many)]


# Each net is how many places, the ties, and the tally where it is known from elsewhere.
KNOWN_NETS = [
    (1, [], 1),
    (1, [(0, 0)], 1),
    (1, [(0, 0)] * 16, 1),
    (2, [], 0),
    (2, [(0, 0), (1, 1)], 0),
    (2, [(1, 0)], 1),
    (2, [(0, 1)] * 16, 16),
    (2, [(0, 1), (1, 0), (0, 1), (1, 1)], 3),
    (3, [(0, 1), (0, 1), (1, 2), (2, 1), (2, 1)], 6),
    (3, ring(3), 3),
    (4, every_pair(4), 16),
    (4, every_pair(4) + [(2, 2)], 16),
    (4, [(0, 1), (2, 3)], 0),
    (5, every_pair(5), 125),
    (5, every_pair(4), 0),
    (6, every_pair(6), 1296),
    (6, [(one, other) for one in range(3) for other in range(3, 6)], 81),
    (7, [], 0),
    (7, ring(7), 7),
    (7, ring(7)[:6], 1),
    (7, ring(6), 0),
    (7, wheel(6), 320),
]

# Sixteen ties on seven places, some of them alike and one from a place to itself.
FULL_NET = (7, wheel(6) + [(0, 3), (3, 0), (2, 2), (5, 1)])

# Sixteen of the pairs of seven places: of all such nets these have the most hangings.
_LEFT_OUT = [(0, 1), (0, 3), (1, 3), (2, 4), (5, 6)]
RICH_NET = (7, [pair for pair in every_pair(7) if pair not in _LEFT_OUT])

BROKEN_NET = (6, [(5, 2), (4, 0), (2, 5), (3, 3), (0, 4)])


def tiny_nets():
    """Every net of up to three places and three ties, whichever way round, in one order."""
    for many in (1, 2, 3):
        pairs = list(product(range(many), repeat=2))
        for size in range(4):
            for ties in combinations_with_replacement(pairs, size):
                yield many, list(ties)


def mixed_nets():
    """Nets of up to six places and nine ties, in no order, made alike each time."""
    chance = Random(7)
    for size in range(90):
        many = 1 + size % 6
        yield many, [
            (chance.randrange(many), chance.randrange(many)) for _ in range(chance.randrange(10))
        ]


def nets():
    for many, ties, _ in KNOWN_NETS:
        yield many, list(ties)
    yield FULL_NET[0], list(FULL_NET[1])
    yield BROKEN_NET[0], list(BROKEN_NET[1])
    yield from tiny_nets()
    yield from mixed_nets()


def small_nets():
    """Nets small enough to try all lists of ties, and all pairs of their hangings."""
    for many, ties in nets():
        if len(ties) <= 10:
            yield many, ties


def reached(many, ties):
    """For each place the places that hang together with it, found by going along ties."""
    found = []
    for start in range(many):
        seen = {start}
        while True:
            further = {b for a, b in ties if a in seen} | {a for a, b in ties if b in seen}
            if further <= seen:
                break
            seen |= further
        found.append(seen)
    return found


def joins(many, ties, some):
    """Tell whether all places hang together by these ties alone."""
    return len(reached(many, [ties[tie] for tie in some])[0]) == many


def hangings_by_words(many, ties):
    """Find the hangings straight by [3]: enough ties, and none of them to spare."""
    found = []
    for size in range(len(ties) + 1):
        for some in combinations(range(len(ties)), size):
            fewer = (some[:at] + some[at + 1:] for at in range(size))
            if joins(many, ties, some) and not any(joins(many, ties, less) for less in fewer):
                found.append(list(some))
    return sorted(found)


def hangings_by_trying(many, ties):
    """Try all rising lists of as many numbers as there are places, less one."""
    tried = combinations(range(len(ties)), many - 1)
    return sorted(list(some) for some in tried if joins(many, ties, some))


def picked(count):
    """The numbers below count, where there are many just some, the ends among them."""
    if count <= 60:
        return list(range(count))
    return [*range(20), *range(20, count, count // 40), count - 2, count - 1]


class Thorn:
    """Nothing can be asked of it, and it calls itself an integer."""

    @property
    def __class__(self):
        return int

    def _refuse(self, *rest):
        raise RuntimeError("asked")

    __eq__ = __ne__ = __lt__ = __le__ = __gt__ = __ge__ = _refuse
    __len__ = __iter__ = __bool__ = __index__ = __int__ = __hash__ = _refuse
    __repr__ = __str__ = __getitem__ = __contains__ = _refuse


def _own_lists():
    own = []
    own.append(own)
    return own


WRONG_MANY = [
    0, 8, -1, -7, 10 ** 5000, True, False, None, "", "3", b"3", [], [3], (3,), {}, {3}, 3.0,
    float("nan"), 3j, range(3), int, Thorn(),
]
WRONG_TIES = [
    None, 0, 1, True, "", "01", b"", (), ((0, 1),), {}, {(0, 1)}, {(0, 1): 1}, range(0), iter([]),
    list, Thorn(), [(0, 1)] * 17, [(0, 0)] * 100,
]
# For a net of three places.
WRONG_TIE = [
    None, 0, True, "01", b"01", "", [0, 1], [], {}, {0, 1}, (), (0,), (0, 1, 2), ((0, 1),), (0, 3),
    (3, 0), (0, 10 ** 5000), (0, -1), (-1, 0), (0, True), (True, 0), (False, 0), (False, False),
    (0, None), (None, None), ("0", "1"), (0, "1"), (0, 1.0), (0.0, 1), (0, (1,)), (0, [1]),
    range(2), Thorn(), (0, Thorn()), (Thorn(), 0), _own_lists(),
]


def wrong_nets():
    for many in WRONG_MANY:
        yield many, [(0, 0)]
        yield many, []
        yield many, None
    for ties in WRONG_TIES:
        yield 3, ties
        yield None, ties
    for tie in WRONG_TIE:
        yield 3, [tie]
        yield 3, [(0, 1)] * 15 + [tie]
        yield 3, [tie, (1, 2), (2, 2)]
    yield 3, _own_lists()
    yield 1, [(0, 1)]
    yield 7, [(6, 7)]


def wrong_numbers(size):
    """What is no number of one of so many things."""
    return [
        size, size + 1, -1, -size, -size - 1, 10 ** 5000, -10 ** 5000, True, False, None, "", "0",
        b"0", [], [0], (), (0,), {}, {0}, 0.0, float("nan"), slice(0, 1), Thorn(),
    ]


class OwnList(list):
    pass


class OwnNumber(int):
    pass


def never_hangings():
    """What is no hanging of any net."""
    return [
        None, True, False, 0, 1, -1, 10 ** 5000, 1.5, 1j, "", "0", "01", b"", b"\0\1", (), (0,),
        (0, 1), {}, {0: True}, set(), {0, 1}, frozenset(), range(0), range(2), iter([]), iter([0]),
        slice(0, 1), list, Thorn(), _own_lists(), [Thorn()], OwnList(), OwnList([0, 1]), [()],
        [None], ["0"], [b"0"], [[0]], [(0,)], [0.0], [0, 1.0], [float("nan")], [[]], [[], []],
        [0, None], [None, 0], [0, "1"], ["0", 1], [0, [1]], [0, Thorn()], [10 ** 5000], [-1],
        [0, -1], [-10 ** 5000, 0], [False], [True], [True, False], [OwnNumber(0)],
        [0, OwnNumber(1)], [False, True], [False, 1], [0, True], [0, 0], [1, 1], [1, 0],
        list(range(7)), list(range(16)), [0] * 6, [0, 1, 2, 3, 4, 4], [0] * 100000,
    ]


def spoilt_hangings(many, ties, right):
    """What comes of a hanging of a net by small changes, and is none of it any more."""
    count = len(ties)
    spoilt = [
        tuple(right), dict.fromkeys(right, True), set(right), range(many - 1), iter(right),
        OwnList(right), [right], (right,), str(right), right + [count], right + [None],
        [-1] + right, right + [right],
    ]
    spoilt.extend(sorted(right + [tie]) for tie in range(count))
    spoilt.extend([tie] + right for tie in (0, count - 1, True, False))
    if len(right) > 1:
        spoilt.extend([right[::-1], right[1:] + right[:1], right[:1] + right[:1] + right[2:]])
    for at, tie in enumerate(right):
        for other in (
            count, count + tie, -1, tie - count, None, float(tie), str(tie), [tie], (tie,),
            OwnNumber(tie), Thorn(), 10 ** 5000, -10 ** 5000,
        ):
            spoilt.append(right[:at] + [other] + right[at + 1:])
        if tie < 2:
            spoilt.append(right[:at] + [bool(tie)] + right[at + 1:])
        spoilt.append(right[:at] + right[at + 1:])
        spoilt.append(right[:at] + [tie] + right[at:])
    return spoilt


class NetCase(unittest.TestCase):
    def assert_refused(self, error, call, *handed):
        """Look that a call is refused with just this error, and with no other one's name."""
        try:
            told = call(*handed)
        except errors.NetError as caught:
            self.assertIs(type(caught), error)
            self.assertIsInstance(caught, ValueError)
            for other in OWN_ERRORS:
                self.assertEqual(isinstance(caught, other), other is error)
        else:
            self.fail(f"{call.__name__} refused nothing and told {told!r}")

    def assert_keeps_handed(self, call, *handed):
        """Look that a call leaves all that it is handed as it was, also when it refuses."""
        before = deepcopy(handed)
        items = [list(map(id, thing)) for thing in handed if isinstance(thing, list)]
        try:
            call(*handed)
        except errors.NetError:
            pass
        self.assertEqual(handed, before)
        self.assertEqual(
            [list(map(id, thing)) for thing in handed if isinstance(thing, list)], items
        )

    def assert_tells_anew(self, call, *handed):
        """Look that a change of an answer changes neither what is handed in nor a later answer."""
        handed_before = deepcopy(handed)
        first = call(*handed)
        kept = call(*handed)
        right = deepcopy(first)
        _spoil(first)
        self.assertEqual(handed, handed_before)
        self.assertEqual(kept, right)
        self.assertEqual(call(*handed), right)

    def assert_own_lists(self, lists):
        """Look that each list in a list is one of its own."""
        self.assertEqual(len({id(one) for one in lists}), len(lists))


def _spoil(answer):
    """Change all in an answer that can be changed."""
    if isinstance(answer, (list, tuple)):
        for part in answer:
            _spoil(part)
    if isinstance(answer, list):
        answer.reverse()
        answer.append("spoilt")
        answer[0] = "spoilt"

"""Points [1] and [11], and the refusals of [12] that treetally.ways makes."""

from random import Random

from tests.helper import (
    BROKEN_NET,
    FULL_NET,
    RICH_NET,
    NetCase,
    hangings_by_trying,
    never_hangings,
    nets,
    ring,
    small_nets,
    spoilt_hangings,
    wheel,
    wrong_nets,
)
from treetally.errors import BadHanging, BadNet
from treetally.hangings import all_hangings, is_hanging
from treetally.ways import exchanges


def some_pairs(found):
    """Pairs out of a list of hangings: all of few, and some of many."""
    if len(found) <= 6:
        return [(one, other) for one in found for other in found]
    chance = Random(11)
    return [(found[0], found[-1]), (found[-1], found[0]), (found[3], found[3])] + [
        (chance.choice(found), chance.choice(found)) for _ in range(20)
    ]


class ExchangesTest(NetCase):
    def assert_is_way(self, many, ties, one, other):
        way = exchanges(many, ties, one, other)
        self.assertIs(type(way), list)
        self.assertEqual(way[0], one)
        self.assertEqual(way[-1], other)
        self.assertEqual(len(way) - 1, len(set(other) - set(one)))
        for some in way:
            self.assertIs(type(some), list)
            self.assertIs(is_hanging(many, ties, some), True)
        for some, behind in zip(way, way[1:]):
            self.assertEqual(len(set(some) - set(behind)), 1)
            self.assertEqual(len(set(behind) - set(some)), 1)

    def test_to_itself(self):
        self.assertEqual(exchanges(4, ring(4), [0, 1, 3], [0, 1, 3]), [[0, 1, 3]])
        some = [0, 2, 3]
        self.assertEqual(exchanges(4, ring(4), some, some), [[0, 2, 3]])

    def test_of_one_place(self):
        for ties in ([], [(0, 0)], [(0, 0)] * 16):
            self.assertEqual(exchanges(1, ties, [], []), [[]])

    def test_by_one_exchange(self):
        self.assertEqual(exchanges(3, ring(3), [0, 1], [1, 2]), [[0, 1], [1, 2]])
        self.assertEqual(exchanges(3, ring(3), [1, 2], [0, 1]), [[1, 2], [0, 1]])
        self.assertEqual(exchanges(2, [(0, 1)] * 16, [15], [0]), [[15], [0]])
        self.assertEqual(exchanges(2, [(0, 0), (0, 1), (1, 0)], [1], [2]), [[1], [2]])

    def test_by_six_exchanges(self):
        rim, spokes = [0, 1, 2, 3, 4, 6], [6, 7, 8, 9, 10, 11]
        self.assert_is_way(7, wheel(6), rim, spokes)
        self.assertEqual(len(exchanges(7, wheel(6), rim, spokes)), 6)
        ties = ring(7)[:6] + ring(7)[:6]
        self.assert_is_way(7, ties, [0, 1, 2, 3, 4, 5], [6, 7, 8, 9, 10, 11])
        self.assertEqual(len(exchanges(7, ties, [0, 1, 2, 3, 4, 5], [6, 7, 8, 9, 10, 11])), 7)

    def test_the_tie_that_goes_stands_in_the_round_of_the_one_that_comes(self):
        # Two rounds of three ties: 0, 1, 5 and 2, 3, 4.
        ties = [(0, 1), (1, 2), (2, 3), (3, 4), (4, 2), (2, 0)]
        for one in hangings_by_trying(5, ties):
            for other in hangings_by_trying(5, ties):
                self.assert_is_way(5, ties, one, other)
        way = exchanges(5, ties, [0, 1, 2, 3], [1, 3, 4, 5])
        self.assertIn(way[1], ([0, 1, 3, 4], [1, 2, 3, 5]))

    def test_between_all_hangings_of_small_nets(self):
        for many, ties in small_nets():
            found = hangings_by_trying(many, ties)
            for one, other in some_pairs(found):
                self.assert_is_way(many, ties, one, other)

    def test_between_hangings_of_the_largest_nets(self):
        for many, ties in (FULL_NET, RICH_NET):
            found = all_hangings(many, ties, 2800)
            for _ in range(5):
                for one, other in some_pairs(found):
                    self.assert_is_way(many, ties, one, other)

    def test_refuses_what_is_no_hanging_as_the_first_and_as_the_second(self):
        for many, ties in [(1, []), (2, [(0, 1)] * 3), (3, ring(3)), (4, ring(4)), FULL_NET]:
            right = hangings_by_trying(many, ties)[0]
            for some in never_hangings() + spoilt_hangings(many, ties, right):
                self.assert_refused(BadHanging, exchanges, many, ties, some, right)
                self.assert_refused(BadHanging, exchanges, many, ties, right, some)
                self.assert_refused(BadHanging, exchanges, many, ties, some, some)

    def test_refuses_ties_by_which_not_all_hangs_together(self):
        ties = ring(3) + [(2, 3)]
        for one, other in (([0, 1, 2], [0, 1, 3]), ([0, 1, 3], [0, 1, 2]), ([0, 1, 2], [0, 1, 2])):
            self.assert_refused(BadHanging, exchanges, 4, ties, one, other)

    def test_refuses_all_where_there_is_no_hanging(self):
        for many, ties in ((2, []), (7, []), (7, ring(6)), (2, [(0, 0), (1, 1)]), BROKEN_NET):
            for some in ([], [0], list(range(many - 1)), list(range(len(ties))), None):
                self.assert_refused(BadHanging, exchanges, many, ties, some, some)

    def test_refuses_what_is_no_net_first(self):
        for many, ties in wrong_nets():
            for one, other in (([], []), ([0], [0]), ([0, 1], None), (None, [0, 1]), (0, "")):
                self.assert_refused(BadNet, exchanges, many, ties, one, other)

    def test_answers_are_the_askers(self):
        for many, ties in nets():
            found = hangings_by_trying(many, ties)
            for one, other in some_pairs(found)[:5]:
                self.assert_keeps_handed(exchanges, many, ties, one, other)
                self.assert_tells_anew(exchanges, many, ties, one, other)
        self.assert_keeps_handed(exchanges, 3, ring(3), [0, 1], [1, 0])
        self.assert_keeps_handed(exchanges, 3, ring(3), [2, 1], [0, 1])
        self.assert_keeps_handed(exchanges, 2, [(0, 2)], [0], [0])

    def test_hangings_are_lists_of_their_own(self):
        for many, ties in small_nets():
            for one, other in some_pairs(hangings_by_trying(many, ties))[:9]:
                self.assert_own_lists([one, *exchanges(many, ties, one, other)])
                self.assert_own_lists([other, *exchanges(many, ties, one, other)])

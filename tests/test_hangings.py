"""Points [1], [3], [4] and [6], and the refusals of [12] that treetally.hangings makes."""

from itertools import combinations, permutations

from tests.helper import (
    BROKEN_NET,
    FULL_NET,
    KNOWN_NETS,
    RICH_NET,
    NetCase,
    every_pair,
    hangings_by_trying,
    hangings_by_words,
    never_hangings,
    nets,
    ring,
    small_nets,
    spoilt_hangings,
    tiny_nets,
    wheel,
    wrong_nets,
)
from treetally.errors import BadNet, TooMany
from treetally.hangings import all_hangings, is_hanging
from treetally.nets import hangs
from treetally.tallies import tally

MANY = 10 ** 6


class IsHangingTest(NetCase):
    def test_of_a_net(self):
        ties = [(0, 1), (1, 2), (2, 0), (2, 3)]
        for some in ([0, 1, 3], [0, 2, 3], [1, 2, 3]):
            self.assertIs(is_hanging(4, ties, some), True)
        for some in ([0, 1, 2], [0, 1], [3], [], [0, 1, 2, 3], [3, 2, 1]):
            self.assertIs(is_hanging(4, ties, some), False)

    def test_of_one_place(self):
        for ties in ([], [(0, 0)], [(0, 0)] * 16):
            self.assertIs(is_hanging(1, ties, []), True)
            self.assertIs(is_hanging(1, ties, [0]), False)

    def test_of_seven_places(self):
        self.assertIs(is_hanging(7, ring(7), [0, 1, 2, 3, 4, 6]), True)
        self.assertIs(is_hanging(7, ring(7), [0, 1, 2, 3, 4, 5, 6]), False)
        self.assertIs(is_hanging(7, wheel(6), [6, 7, 8, 9, 10, 11]), True)
        self.assertIs(is_hanging(7, wheel(6), [0, 1, 2, 3, 4, 5]), False)

    def test_ties_that_are_alike(self):
        ties = [(0, 1), (1, 0), (1, 2)]
        self.assertIs(is_hanging(3, ties, [0, 2]), True)
        self.assertIs(is_hanging(3, ties, [1, 2]), True)
        self.assertIs(is_hanging(3, ties, [0, 1]), False)
        self.assertIs(is_hanging(2, [(0, 1)] * 16, [15]), True)

    def test_no_tie_from_a_place_to_itself(self):
        ties = [(0, 0), (0, 1), (1, 1)]
        self.assertIs(is_hanging(2, ties, [1]), True)
        for some in ([0], [2], [0, 1], [1, 2], [0, 1, 2]):
            self.assertIs(is_hanging(2, ties, some), False)

    def test_true_and_false_make_no_hanging(self):
        self.assertIs(is_hanging(2, [(0, 1), (0, 1)], [0]), True)
        self.assertIs(is_hanging(2, [(0, 1), (0, 1)], [1]), True)
        self.assertIs(is_hanging(2, [(0, 1), (0, 1)], [False]), False)
        self.assertIs(is_hanging(2, [(0, 1), (0, 1)], [True]), False)
        self.assertIs(is_hanging(3, [(0, 1), (1, 2)], [0, 1]), True)
        for some in ([False, 1], [0, True], [False, True]):
            self.assertIs(is_hanging(3, [(0, 1), (1, 2)], some), False)

    def test_numbers_count_from_nought_upwards(self):
        self.assertIs(is_hanging(2, [(0, 1)], [-1]), False)
        self.assertIs(is_hanging(2, [(0, 1)], [1]), False)
        self.assertIs(is_hanging(3, [(0, 1), (1, 2)], [-2, 1]), False)
        self.assertIs(is_hanging(3, [(0, 1), (1, 2)], [-2, -1]), False)

    def test_of_all_lists_of_tiny_nets(self):
        for many, ties in tiny_nets():
            right = hangings_by_words(many, ties)
            for size in range(len(ties) + 1):
                for some in permutations(range(len(ties)), size):
                    self.assertIs(is_hanging(many, ties, list(some)), list(some) in right)

    def test_of_all_rising_lists_of_small_nets(self):
        for many, ties in small_nets():
            right = hangings_by_trying(many, ties)
            for size in range(len(ties) + 1):
                for some in combinations(range(len(ties)), size):
                    self.assertIs(is_hanging(many, ties, list(some)), list(some) in right)

    def test_of_rising_lists_of_the_largest_nets(self):
        for many, ties in (FULL_NET, RICH_NET):
            count = 0
            for some in combinations(range(len(ties)), many - 1):
                count += is_hanging(many, ties, list(some))
            self.assertEqual(count, tally(many, ties))

    def test_anything_else_is_none(self):
        for many, ties in nets():
            for some in never_hangings():
                self.assertIs(is_hanging(many, ties, some), False)

    def test_spoilt_hangings_are_none(self):
        for many, ties in nets():
            for right in hangings_by_trying(many, ties)[:3]:
                self.assertIs(is_hanging(many, ties, right), True)
                for some in spoilt_hangings(many, ties, right):
                    self.assertIs(is_hanging(many, ties, some), False)

    def test_nothing_where_the_net_does_not_hang_together(self):
        for many, ties in ((2, []), (2, [(0, 0), (1, 1)]), (7, []), (7, ring(6)), BROKEN_NET):
            for size in range(len(ties) + 1):
                for some in combinations(range(len(ties)), size):
                    self.assertIs(is_hanging(many, ties, list(some)), False)

    def test_refuses_what_is_no_net(self):
        for many, ties in wrong_nets():
            for some in ([], [0], [0, 1], None, 0, "", (0, 1), [None]):
                self.assert_refused(BadNet, is_hanging, many, ties, some)

    def test_keeps_what_is_handed_in(self):
        for many, ties in nets():
            for some in ([], [0], [1, 0], [0, 1], [0, 1, 2], list(range(16)), [None, [0]], {0: 1}):
                self.assert_keeps_handed(is_hanging, many, ties, some)
        self.assert_keeps_handed(is_hanging, 2, [(0, 2)], [0])


class AllHangingsTest(NetCase):
    def test_of_a_net(self):
        ties = [(0, 1), (1, 2), (2, 0), (2, 3)]
        self.assertEqual(all_hangings(4, ties, 3), [[0, 1, 3], [0, 2, 3], [1, 2, 3]])

    def test_of_one_place(self):
        for ties in ([], [(0, 0)], [(0, 0)] * 16):
            self.assertEqual(all_hangings(1, ties, 1), [[]])

    def test_of_ties_that_are_alike(self):
        right = [[tie] for tie in range(16)]
        self.assertEqual(all_hangings(2, [(0, 1), (1, 0)] * 8, 16), right)

    def test_of_ties_from_a_place_to_itself(self):
        ties = [(1, 1), (0, 1), (0, 0), (1, 2), (2, 2)]
        self.assertEqual(all_hangings(3, ties, 1), [[1, 3]])

    def test_of_seven_places(self):
        right = [[tie for tie in range(7) if tie != out] for out in range(6, -1, -1)]
        self.assertEqual(all_hangings(7, ring(7), 7), right)
        self.assertEqual(all_hangings(7, ring(7)[:6], 1), [[0, 1, 2, 3, 4, 5]])

    def test_the_order_is_that_of_lists_and_not_of_places(self):
        ties = [(2, 1), (2, 0), (1, 0)]
        self.assertEqual(all_hangings(3, ties, 3), [[0, 1], [0, 2], [1, 2]])
        ties = [(3, 0), (0, 3), (0, 1), (2, 3), (1, 3)]
        right = [[0, 2, 3], [0, 3, 4], [1, 2, 3], [1, 3, 4], [2, 3, 4]]
        self.assertEqual(all_hangings(4, ties, 5), right)

    def test_against_the_words_on_tiny_nets(self):
        for many, ties in tiny_nets():
            self.assertEqual(all_hangings(many, ties, MANY), hangings_by_words(many, ties))
        self.assertEqual(all_hangings(4, every_pair(4), 16), hangings_by_words(4, every_pair(4)))

    def test_against_trying_all_lists(self):
        for many, ties in nets():
            self.assertEqual(all_hangings(many, ties, MANY), hangings_by_trying(many, ties))
        self.assertEqual(all_hangings(*RICH_NET, MANY), hangings_by_trying(*RICH_NET))

    def test_they_are_as_many_as_the_tally(self):
        for many, ties, count in KNOWN_NETS:
            self.assertEqual(len(all_hangings(many, ties, MANY)), count)
        for many, ties in nets():
            self.assertEqual(len(all_hangings(many, ties, MANY)), tally(many, ties))

    def test_each_one_is_a_hanging_and_greater_than_the_one_ahead(self):
        for many, ties in (FULL_NET, RICH_NET):
            told = all_hangings(many, ties, MANY)
            for some in told:
                self.assertIs(type(some), list)
                self.assertIs(is_hanging(many, ties, some), True)
            for one, other in zip(told, told[1:]):
                self.assertLess(one, other)

    def test_as_many_as_wished_and_more_and_fewer(self):
        for many, ties in list(nets()) + [RICH_NET]:
            count = tally(many, ties)
            told = all_hangings(many, ties, count)
            self.assertEqual(len(told), count)
            for most in (count + 1, 2 * count + 5, 10 ** 5000):
                self.assertEqual(all_hangings(many, ties, most), told)
            for most in {count - 1, count // 2, 0}:
                if 0 <= most < count:
                    self.assert_refused(TooMany, all_hangings, many, ties, most)

    def test_none_wished_where_there_are_none(self):
        for many, ties in nets():
            if not hangs(many, ties):
                self.assertEqual(all_hangings(many, ties, 0), [])
                self.assertEqual(all_hangings(many, ties, 5), [])
            else:
                self.assert_refused(TooMany, all_hangings, many, ties, 0)

    def test_refuses_what_is_no_net_first(self):
        for many, ties in wrong_nets():
            for most in (0, 1, MANY, -1, None):
                self.assert_refused(BadNet, all_hangings, many, ties, most)

    def test_answers_are_the_askers(self):
        for many, ties in nets():
            for most in (0, MANY):
                self.assert_keeps_handed(all_hangings, many, ties, most)
            self.assert_tells_anew(all_hangings, many, ties, MANY)
        self.assert_keeps_handed(all_hangings, 2, [(0, 2)], 0)

    def test_hangings_are_lists_of_their_own(self):
        for many, ties in nets():
            self.assert_own_lists(all_hangings(many, ties, MANY))

    def test_a_net_that_the_asker_changes(self):
        ties = [(0, 1), (1, 2)]
        told = all_hangings(3, ties, 1)
        ties.append((2, 0))
        self.assertEqual(told, [[0, 1]])
        self.assertEqual(all_hangings(3, ties, 3), [[0, 1], [0, 2], [1, 2]])
        ties.clear()
        self.assertEqual(all_hangings(3, ties, 3), [])

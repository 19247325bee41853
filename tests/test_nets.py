"""Points [1], [2] and [5], and the refusals of [12] that treetally.nets makes."""

from tests.helper import (
    BROKEN_NET,
    FULL_NET,
    KNOWN_NETS,
    NetCase,
    nets,
    reached,
    ring,
    wrong_nets,
    wrong_numbers,
)
from treetally.errors import BadNet, BadTie, SelfTie
from treetally.nets import hangs, need_net, net_together, net_without, parts_of


class NeedNetTest(NetCase):
    def test_takes_nets(self):
        for many, ties in nets():
            self.assertIsNone(need_net(many, ties))

    def test_takes_all_numbers_of_places(self):
        for many in range(1, 8):
            self.assertIsNone(need_net(many, []))
            self.assertIsNone(need_net(many, [(many - 1, 0), (many - 1, many - 1)]))

    def test_takes_none_to_sixteen_ties(self):
        for size in range(17):
            self.assertIsNone(need_net(3, [(0, 2)] * size))

    def test_refuses_what_is_no_net(self):
        for many, ties in wrong_nets():
            self.assert_refused(BadNet, need_net, many, ties)

    def test_keeps_what_it_takes_and_what_it_refuses(self):
        for many, ties in nets():
            self.assert_keeps_handed(need_net, many, ties)
        for many, ties in ((8, [(0, 1)]), (3, [(0, 1), [1, 2]]), (2, [(0, 2)]), (2, [(0, 1)] * 17)):
            for call in (need_net, parts_of, hangs):
                self.assert_keeps_handed(call, many, ties)

    def test_places_are_measured_by_the_net(self):
        for many in range(1, 7):
            self.assert_refused(BadNet, need_net, many, [(0, many)])
            self.assertIsNone(need_net(many + 1, [(0, many)]))


class PartsTest(NetCase):
    def test_of_nets_without_ties(self):
        for many in range(1, 8):
            self.assertEqual(parts_of(many, []), [[place] for place in range(many)])

    def test_of_nets_in_one_part(self):
        self.assertEqual(parts_of(1, [(0, 0)]), [[0]])
        self.assertEqual(parts_of(*FULL_NET), [[0, 1, 2, 3, 4, 5, 6]])
        self.assertEqual(parts_of(7, ring(7)[:6]), [[0, 1, 2, 3, 4, 5, 6]])

    def test_of_nets_in_several_parts(self):
        self.assertEqual(parts_of(*BROKEN_NET), [[0, 4], [1], [2, 5], [3]])
        self.assertEqual(parts_of(7, [(6, 3), (5, 6), (4, 1)]), [[0], [1, 4], [2], [3, 5, 6]])
        self.assertEqual(parts_of(3, [(1, 1), (2, 2)]), [[0], [1], [2]])

    def test_ties_lead_both_ways(self):
        for ties in ([(2, 1), (0, 2)], [(1, 2), (2, 0)], [(1, 2), (0, 2)], [(2, 1), (2, 0)]):
            self.assertEqual(parts_of(4, ties), [[0, 1, 2], [3]])

    def test_late_ties_join_whole_parts(self):
        self.assertEqual(parts_of(6, [(4, 5), (0, 1), (2, 3), (5, 1), (3, 4)]), [[0, 1, 2, 3, 4, 5]])
        self.assertEqual(parts_of(6, [(4, 5), (0, 1), (2, 3), (5, 3)]), [[0, 1], [2, 3, 4, 5]])

    def test_against_going_along_ties(self):
        for many, ties in nets():
            found = reached(many, ties)
            right = [sorted(seen) for place, seen in enumerate(found) if place == min(seen)]
            self.assertEqual(parts_of(many, ties), right)

    def test_refuses_what_is_no_net(self):
        for many, ties in wrong_nets():
            self.assert_refused(BadNet, parts_of, many, ties)

    def test_answers_are_the_askers(self):
        for many, ties in nets():
            self.assert_keeps_handed(parts_of, many, ties)
            self.assert_tells_anew(parts_of, many, ties)


class HangsTest(NetCase):
    def test_nets_that_hang_together(self):
        for many, ties in ((1, []), (1, [(0, 0)]), (2, [(1, 0)]), (7, ring(7)[:6]), FULL_NET):
            self.assertIs(hangs(many, ties), True)

    def test_nets_that_do_not(self):
        for many, ties in ((2, []), (2, [(0, 0), (1, 1)]), (7, []), (7, ring(6)), BROKEN_NET):
            self.assertIs(hangs(many, ties), False)

    def test_where_there_are_hangings(self):
        for many, ties, count in KNOWN_NETS:
            self.assertIs(hangs(many, ties), count > 0)

    def test_refuses_what_is_no_net(self):
        for many, ties in wrong_nets():
            self.assert_refused(BadNet, hangs, many, ties)

    def test_keeps_what_is_handed_in(self):
        for many, ties in nets():
            self.assert_keeps_handed(hangs, many, ties)


class WithoutTest(NetCase):
    def test_leaves_out_the_tie(self):
        ties = [(0, 1), (2, 1), (2, 2), (0, 1)]
        self.assertEqual(net_without(3, ties, 0), [(2, 1), (2, 2), (0, 1)])
        self.assertEqual(net_without(3, ties, 1), [(0, 1), (2, 2), (0, 1)])
        self.assertEqual(net_without(3, ties, 2), [(0, 1), (2, 1), (0, 1)])
        self.assertEqual(net_without(3, ties, 3), [(0, 1), (2, 1), (2, 2)])

    def test_leaves_none_of_one(self):
        self.assertEqual(net_without(2, [(1, 0)], 0), [])
        self.assertEqual(net_without(1, [(0, 0)], 0), [])

    def test_of_all_nets(self):
        for many, ties in nets():
            for tie in range(len(ties)):
                rest = net_without(many, ties, tie)
                self.assertIs(type(rest), list)
                self.assertEqual(rest, [two for at, two in enumerate(ties) if at != tie])
                self.assertIsNone(need_net(many, rest))

    def test_refuses_what_is_no_number_of_a_tie(self):
        for many, ties in ((3, []), (3, [(0, 1)]), (1, [(0, 0)] * 2), FULL_NET):
            for tie in wrong_numbers(len(ties)):
                self.assert_refused(BadTie, net_without, many, ties, tie)

    def test_refuses_what_is_no_net_first(self):
        for many, ties in wrong_nets():
            for tie in (0, 99, None):
                self.assert_refused(BadNet, net_without, many, ties, tie)

    def test_answers_are_the_askers(self):
        for many, ties in nets():
            for tie in range(len(ties) + 1):
                self.assert_keeps_handed(net_without, many, ties, tie)
            for tie in range(len(ties)):
                self.assert_tells_anew(net_without, many, ties, tie)


def drawn_by_table(many, ties, tie):
    """Draw a net together by a table that tells for each place what becomes of it."""
    low, high = sorted(ties[tie])
    left = [place for place in range(many) if place != high]
    new = {place: at for at, place in enumerate(left)}
    new[high] = new[low]
    return many - 1, [(new[a], new[b]) for at, (a, b) in enumerate(ties) if at != tie]


class TogetherTest(NetCase):
    def test_draws_together(self):
        ties = [(3, 1), (2, 1), (3, 2), (0, 3), (3, 3), (1, 3), (4, 3), (0, 4)]
        drawn = [(2, 1), (1, 2), (0, 1), (1, 1), (1, 1), (3, 1), (0, 3)]
        self.assertEqual(net_together(5, ties, 0), (4, drawn))

    def test_the_order_of_both_places_is_free(self):
        rest = [(0, 1), (3, 2), (2, 0), (3, 1)]
        drawn = (3, [(0, 1), (2, 0), (0, 0), (2, 1)])
        self.assertEqual(net_together(4, [(0, 2)] + rest, 0), drawn)
        self.assertEqual(net_together(4, [(2, 0)] + rest, 0), drawn)
        self.assertEqual(net_together(4, rest + [(2, 0)], 4), drawn)

    def test_ties_that_are_alike_lead_to_itself_then(self):
        self.assertEqual(net_together(2, [(0, 1)] * 16, 7), (1, [(0, 0)] * 15))
        self.assertEqual(net_together(3, [(1, 2), (2, 1), (0, 2)], 1), (2, [(1, 1), (0, 1)]))

    def test_leaves_one_place_of_two(self):
        self.assertEqual(net_together(2, [(1, 0)], 0), (1, []))

    def test_of_all_nets(self):
        for many, ties in nets():
            for tie, (one, other) in enumerate(ties):
                if one != other:
                    drawn = net_together(many, ties, tie)
                    self.assertIs(type(drawn), tuple)
                    self.assertIs(type(drawn[1]), list)
                    self.assertEqual(drawn, drawn_by_table(many, ties, tie))
                    self.assertIsNone(need_net(*drawn))

    def test_refuses_ties_from_a_place_to_itself(self):
        for many, ties in nets():
            for tie, (one, other) in enumerate(ties):
                if one == other:
                    self.assert_refused(SelfTie, net_together, many, ties, tie)

    def test_refuses_what_is_no_number_of_a_tie(self):
        for many, ties in ((3, []), (3, [(0, 1)]), (1, [(0, 0)] * 2), (2, [(1, 1)]), FULL_NET):
            for tie in wrong_numbers(len(ties)):
                self.assert_refused(BadTie, net_together, many, ties, tie)

    def test_refuses_what_is_no_net_first(self):
        for many, ties in wrong_nets():
            for tie in (0, 99, None):
                self.assert_refused(BadNet, net_together, many, ties, tie)
        self.assert_refused(BadNet, net_together, 2, [(0, 0), (0, 2)], 0)
        self.assert_refused(BadNet, net_together, 2, [(0, 0)] * 17, 0)
        self.assert_refused(BadNet, net_together, 8, [(0, 0)], 0)

    def test_answers_are_the_askers(self):
        for many, ties in nets():
            for tie in range(len(ties) + 1):
                self.assert_keeps_handed(net_together, many, ties, tie)
            for tie, (one, other) in enumerate(ties):
                if one != other:
                    self.assert_tells_anew(net_together, many, ties, tie)

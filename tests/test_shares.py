"""Points [1] and [10], and the refusals of [12] that treetally.shares makes."""

from tests.helper import (
    BROKEN_NET,
    FULL_NET,
    RICH_NET,
    NetCase,
    every_pair,
    hangings_by_trying,
    nets,
    ring,
    wrong_nets,
)
from treetally.errors import BadNet
from treetally.nets import hangs, net_together, net_without
from treetally.shares import standing
from treetally.tallies import tally


class StandingTest(NetCase):
    def test_of_a_net(self):
        self.assertEqual(standing(4, [(0, 1), (1, 2), (2, 0), (2, 3)]), [2, 2, 2, 3])

    def test_of_nets_without_ties(self):
        for many in range(1, 8):
            self.assertEqual(standing(many, []), [])

    def test_of_one_place(self):
        self.assertEqual(standing(1, [(0, 0)]), [0])
        self.assertEqual(standing(1, [(0, 0)] * 16), [0] * 16)

    def test_of_ties_that_are_alike(self):
        self.assertEqual(standing(2, [(0, 1), (1, 0)] * 8), [1] * 16)
        self.assertEqual(standing(3, [(0, 1), (1, 0), (1, 2)]), [1, 1, 2])

    def test_of_ties_from_a_place_to_itself(self):
        self.assertEqual(standing(2, [(0, 0), (0, 1), (1, 1), (1, 0)]), [0, 1, 0, 1])

    def test_of_seven_places(self):
        self.assertEqual(standing(7, ring(7)), [6] * 7)
        self.assertEqual(standing(7, ring(7)[:6]), [1] * 6)
        self.assertEqual(standing(6, every_pair(6)), [432] * 15)

    def test_of_nets_that_do_not_hang_together(self):
        for many, ties in ((2, [(0, 0), (1, 1)]), (7, ring(6)), (3, [(0, 1)]), BROKEN_NET):
            self.assertEqual(standing(many, ties), [0] * len(ties))
        for many, ties in nets():
            if not hangs(many, ties):
                self.assertEqual(standing(many, ties), [0] * len(ties))

    def test_against_trying_all_lists(self):
        for many, ties in list(nets()) + [RICH_NET]:
            found = hangings_by_trying(many, ties)
            right = [sum(tie in some for some in found) for tie in range(len(ties))]
            self.assertEqual(standing(many, ties), right)

    def test_against_the_tally_less_that_without_the_tie(self):
        for many, ties in list(nets()) + [RICH_NET]:
            count = tally(many, ties)
            for tie, told in enumerate(standing(many, ties)):
                self.assertIs(type(told), int)
                self.assertEqual(told, count - tally(many, net_without(many, ties, tie)))

    def test_against_the_tally_drawn_together_along_the_tie(self):
        for many, ties in list(nets()) + [RICH_NET]:
            for (one, other), (tie, told) in zip(ties, enumerate(standing(many, ties))):
                right = 0 if one == other else tally(*net_together(many, ties, tie))
                self.assertEqual(told, right)

    def test_over_all_ties_the_tally_times_one_less_than_the_places(self):
        for many, ties in list(nets()) + [RICH_NET]:
            told = standing(many, ties)
            self.assertIs(type(told), list)
            self.assertEqual(len(told), len(ties))
            self.assertEqual(sum(told), tally(many, ties) * (many - 1))

    def test_refuses_what_is_no_net(self):
        for many, ties in wrong_nets():
            self.assert_refused(BadNet, standing, many, ties)

    def test_answers_are_the_askers(self):
        for many, ties in list(nets()) + [FULL_NET]:
            self.assert_keeps_handed(standing, many, ties)
            self.assert_tells_anew(standing, many, ties)
        self.assert_keeps_handed(standing, 2, [(0, 2)])

    def test_a_net_that_the_asker_changes(self):
        ties = [(0, 1), (1, 2)]
        self.assertEqual(standing(3, ties), [1, 1])
        ties.append((2, 0))
        self.assertEqual(standing(3, ties), [2, 2, 2])
        ties[0] = (0, 0)
        self.assertEqual(standing(3, ties), [0, 1, 1])

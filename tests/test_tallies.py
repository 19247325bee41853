"""Points [6], [7] and [9]: tables and tallies, and how they refuse what is no net."""

from tests.helper import (
    BROKEN_NET,
    FULL_NET,
    KNOWN_NETS,
    RICH_NET,
    NetCase,
    hangings_by_trying,
    hangings_by_words,
    nets,
    tiny_nets,
    wrong_nets,
)
from treetally.errors import BadNet
from treetally.nets import hangs, net_together, net_without
from treetally.tallies import table_of, tally
from treetally.worths import worth_of


class TableTest(NetCase):
    def test_of_nets_without_ties(self):
        for many in range(1, 8):
            self.assertEqual(table_of(many, []), [[0] * many for _ in range(many)])

    def test_of_one_place(self):
        self.assertEqual(table_of(1, [(0, 0)] * 16), [[0]])

    def test_of_a_net(self):
        ties = [(0, 1), (2, 0), (1, 1), (1, 0), (2, 3)]
        right = [[3, -2, -1, 0], [-2, 2, 0, 0], [-1, 0, 2, -1], [0, 0, -1, 1]]
        self.assertEqual(table_of(4, ties), right)

    def test_of_ties_that_are_alike(self):
        self.assertEqual(table_of(2, [(0, 1), (1, 0)] * 8), [[16, -16], [-16, 16]])

    def test_of_ties_from_a_place_to_itself(self):
        self.assertEqual(table_of(2, [(0, 0), (1, 1), (1, 1)]), [[0, 0], [0, 0]])
        self.assertEqual(table_of(2, [(0, 0), (1, 0)]), [[1, -1], [-1, 1]])

    def test_of_all_nets(self):
        for many, ties in nets():
            table = table_of(many, ties)
            self.assertEqual([len(row) for row in table], [many] * many)
            for place, row in enumerate(table):
                for at, number in enumerate(row):
                    self.assertIs(type(number), int)
                    if at != place:
                        self.assertEqual(number, -sum({a, b} == {at, place} for a, b in ties))
                away = sum(place in tie and tie[0] != tie[1] for tie in ties)
                self.assertEqual(row[place], away)

    def test_refuses_what_is_no_net(self):
        for many, ties in wrong_nets():
            self.assert_refused(BadNet, table_of, many, ties)

    def test_answers_are_the_askers(self):
        for many, ties in nets():
            self.assert_keeps_handed(table_of, many, ties)
            self.assert_tells_anew(table_of, many, ties)

    def test_rows_are_lists_of_their_own(self):
        table = table_of(3, [])
        table[0][0] = 5
        self.assertEqual(table, [[5, 0, 0], [0, 0, 0], [0, 0, 0]])


class TallyTest(NetCase):
    def test_of_nets_whose_tally_is_known(self):
        for many, ties, count in KNOWN_NETS:
            self.assertEqual(tally(many, ties), count)

    def test_against_a_count_of_tiny_nets(self):
        for many, ties in tiny_nets():
            self.assertEqual(tally(many, ties), len(hangings_by_words(many, ties)))

    def test_against_a_count_of_larger_nets(self):
        self.assertEqual(tally(*FULL_NET), len(hangings_by_trying(*FULL_NET)))
        self.assertEqual(tally(*RICH_NET), len(hangings_by_trying(*RICH_NET)))
        self.assertGreater(tally(*FULL_NET), 320)
        ties = [(0, 1), (1, 2), (2, 3), (3, 0), (0, 2), (2, 0), (3, 3), (4, 1), (1, 4)]
        self.assertEqual(tally(5, ties), len(hangings_by_words(5, ties)))
        self.assertEqual(tally(*BROKEN_NET), len(hangings_by_words(*BROKEN_NET)))

    def test_against_nets_without_a_tie_and_drawn_together_along_it(self):
        for many, ties in nets():
            for tie, (one, other) in enumerate(ties):
                count = tally(many, net_without(many, ties, tie))
                if one != other:
                    count += tally(*net_together(many, ties, tie))
                self.assertEqual(tally(many, ties), count)

    def test_of_nets_that_do_not_hang_together(self):
        for many, ties in nets():
            self.assertEqual(tally(many, ties) == 0, not hangs(many, ties))

    def test_is_a_worth_whichever_place_is_left_out(self):
        for many, ties in nets():
            table = table_of(many, ties)
            for out in range(many):
                left = [row[:out] + row[out + 1:] for row in table[:out] + table[out + 1:]]
                self.assertEqual(worth_of(left), tally(many, ties))

    def test_is_a_whole_number(self):
        for many, ties in nets():
            self.assertIs(type(tally(many, ties)), int)

    def test_the_order_of_ties_and_places_is_free(self):
        many, ties = FULL_NET
        self.assertEqual(tally(many, ties[::-1]), tally(many, ties))
        self.assertEqual(tally(many, [(b, a) for a, b in ties]), tally(many, ties))
        self.assertEqual(tally(many, [(6 - a, 6 - b) for a, b in ties]), tally(many, ties))

    def test_refuses_what_is_no_net(self):
        for many, ties in wrong_nets():
            self.assert_refused(BadNet, tally, many, ties)

    def test_keeps_what_is_handed_in(self):
        for many, ties in nets():
            self.assert_keeps_handed(tally, many, ties)

    def test_a_net_that_the_asker_changes(self):
        ties = [(0, 1), (1, 2)]
        self.assertEqual(tally(3, ties), 1)
        ties.append((2, 0))
        self.assertEqual(tally(3, ties), 3)
        ties.clear()
        self.assertEqual(tally(3, ties), 0)

"""Points [1] and [4], and the refusals of [12] that treetally.numbers makes."""

from tests.helper import (
    BROKEN_NET,
    FULL_NET,
    RICH_NET,
    NetCase,
    hangings_by_trying,
    never_hangings,
    nets,
    picked,
    ring,
    spoilt_hangings,
    wheel,
    wrong_nets,
    wrong_numbers,
)
from treetally.errors import BadHanging, BadNet, BadNumber
from treetally.hangings import all_hangings, is_hanging
from treetally.nets import hangs
from treetally.numbers import hanging_of, number_of
from treetally.tallies import tally

LOOSE_NETS = [(2, []), (2, [(0, 0), (1, 1)]), (7, []), (7, ring(6)), (3, [(0, 1)]), BROKEN_NET]


class HangingOfTest(NetCase):
    def test_of_a_net(self):
        ties = [(0, 1), (1, 2), (2, 0), (2, 3)]
        self.assertEqual(hanging_of(4, ties, 0), [0, 1, 3])
        self.assertEqual(hanging_of(4, ties, 1), [0, 2, 3])
        self.assertEqual(hanging_of(4, ties, 2), [1, 2, 3])

    def test_of_one_place(self):
        for ties in ([], [(0, 0)], [(0, 0)] * 16):
            self.assertEqual(hanging_of(1, ties, 0), [])

    def test_of_ties_that_are_alike(self):
        for number in range(16):
            self.assertEqual(hanging_of(2, [(0, 1), (1, 0)] * 8, number), [number])

    def test_of_ties_from_a_place_to_itself(self):
        self.assertEqual(hanging_of(3, [(1, 1), (0, 1), (0, 0), (1, 2), (2, 2)], 0), [1, 3])

    def test_of_seven_places(self):
        for number in range(7):
            right = [tie for tie in range(7) if tie != 6 - number]
            self.assertEqual(hanging_of(7, ring(7), number), right)
        self.assertEqual(hanging_of(7, wheel(6), 0), [0, 1, 2, 3, 4, 6])
        self.assertEqual(hanging_of(7, wheel(6), 319), [6, 7, 8, 9, 10, 11])

    def test_against_trying_all_lists(self):
        for many, ties in nets():
            right = hangings_by_trying(many, ties)
            for number in picked(len(right)):
                told = hanging_of(many, ties, number)
                self.assertIs(type(told), list)
                self.assertEqual(told, right[number])

    def test_against_all_hangings_of_the_net_with_most(self):
        right = all_hangings(*RICH_NET, 2800)
        for number in picked(2800):
            self.assertEqual(hanging_of(*RICH_NET, number), right[number])

    def test_its_number_is_the_number(self):
        for many, ties in nets():
            for number in picked(tally(many, ties)):
                self.assertEqual(number_of(many, ties, hanging_of(many, ties, number)), number)

    def test_neighbours_stand_in_the_order_of_lists(self):
        for many, ties in (FULL_NET, RICH_NET):
            told = [hanging_of(many, ties, number) for number in range(600, 700)]
            for one, other in zip(told, told[1:]):
                self.assertLess(one, other)
                self.assertIs(is_hanging(many, ties, one), True)

    def test_refuses_what_is_no_number_of_a_hanging(self):
        for many, ties in list(nets()) + [RICH_NET]:
            for number in wrong_numbers(tally(many, ties)):
                self.assert_refused(BadNumber, hanging_of, many, ties, number)

    def test_no_number_is_one_where_there_is_no_hanging(self):
        for many, ties in LOOSE_NETS:
            for number in (0, 1, -1, True, False, None):
                self.assert_refused(BadNumber, hanging_of, many, ties, number)

    def test_refuses_what_is_no_net_first(self):
        for many, ties in wrong_nets():
            for number in (0, 99, -1, None):
                self.assert_refused(BadNet, hanging_of, many, ties, number)

    def test_answers_are_the_askers(self):
        for many, ties in nets():
            count = tally(many, ties)
            for number in {0, count // 2, count - 1, count}:
                self.assert_keeps_handed(hanging_of, many, ties, number)
                if 0 <= number < count:
                    self.assert_tells_anew(hanging_of, many, ties, number)
        self.assert_keeps_handed(hanging_of, 2, [(0, 2)], 0)


class NumberOfTest(NetCase):
    def test_of_a_net(self):
        ties = [(0, 1), (1, 2), (2, 0), (2, 3)]
        self.assertEqual(number_of(4, ties, [0, 1, 3]), 0)
        self.assertEqual(number_of(4, ties, [0, 2, 3]), 1)
        self.assertEqual(number_of(4, ties, [1, 2, 3]), 2)

    def test_of_one_place(self):
        for ties in ([], [(0, 0)], [(0, 0)] * 16):
            self.assertEqual(number_of(1, ties, []), 0)

    def test_of_ties_that_are_alike(self):
        for tie in range(16):
            self.assertEqual(number_of(2, [(0, 1), (1, 0)] * 8, [tie]), tie)

    def test_of_ties_from_a_place_to_itself(self):
        self.assertEqual(number_of(3, [(1, 1), (0, 1), (0, 0), (1, 2), (2, 2)], [1, 3]), 0)

    def test_of_seven_places(self):
        for out in range(7):
            some = [tie for tie in range(7) if tie != out]
            self.assertEqual(number_of(7, ring(7), some), 6 - out)
        self.assertEqual(number_of(7, wheel(6), [6, 7, 8, 9, 10, 11]), 319)

    def test_against_trying_all_lists(self):
        for many, ties in nets():
            right = hangings_by_trying(many, ties)
            for number in picked(len(right)):
                told = number_of(many, ties, right[number])
                self.assertIs(type(told), int)
                self.assertEqual(told, number)

    def test_against_all_hangings_of_the_net_with_most(self):
        right = all_hangings(*RICH_NET, 2800)
        for number in picked(2800):
            self.assertEqual(number_of(*RICH_NET, right[number]), number)

    def test_the_hanging_of_its_number_is_the_hanging(self):
        for many, ties in nets():
            for some in hangings_by_trying(many, ties)[::17]:
                self.assertEqual(hanging_of(many, ties, number_of(many, ties, some)), some)

    def test_refuses_what_is_no_hanging(self):
        for many, ties in nets():
            for some in never_hangings():
                self.assert_refused(BadHanging, number_of, many, ties, some)

    def test_refuses_spoilt_hangings(self):
        for many, ties in list(nets()) + [RICH_NET]:
            for right in hangings_by_trying(many, ties)[:2]:
                for some in spoilt_hangings(many, ties, right):
                    self.assert_refused(BadHanging, number_of, many, ties, some)

    def test_refuses_ties_by_which_not_all_hangs_together(self):
        self.assert_refused(BadHanging, number_of, 4, ring(3) + [(2, 3)], [0, 1, 2])
        self.assert_refused(BadHanging, number_of, 7, wheel(6), [0, 1, 2, 3, 4, 5])
        self.assert_refused(BadHanging, number_of, 3, [(0, 1), (1, 0), (1, 2)], [0, 1])
        self.assert_refused(BadHanging, number_of, 2, [(0, 0), (0, 1)], [0])

    def test_nothing_is_a_hanging_where_there_is_none(self):
        for many, ties in LOOSE_NETS:
            self.assertIs(hangs(many, ties), False)
            for some in ([], [0], [0, 1], list(range(many - 1)), list(range(len(ties))), None):
                self.assert_refused(BadHanging, number_of, many, ties, some)

    def test_refuses_what_is_no_net_first(self):
        for many, ties in wrong_nets():
            for some in ([], [0], [0, 1], None, (0, 1), 0, [None]):
                self.assert_refused(BadNet, number_of, many, ties, some)

    def test_keeps_what_is_handed_in(self):
        for many, ties in nets():
            for some in hangings_by_trying(many, ties)[:5] + [[1, 0], [0], [None, [0]], (0,)]:
                self.assert_keeps_handed(number_of, many, ties, some)
        self.assert_keeps_handed(number_of, 2, [(0, 2)], [0])

    def test_a_hanging_that_the_asker_changes(self):
        ties = ring(3)
        some = [0, 1]
        self.assertEqual(number_of(3, ties, some), 0)
        some[1] = 2
        self.assertEqual(number_of(3, ties, some), 1)
        ties[0] = (0, 0)
        self.assert_refused(BadHanging, number_of, 3, ties, some)
        some[0] = 1
        self.assertEqual(number_of(3, ties, some), 0)

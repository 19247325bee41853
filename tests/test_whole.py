"""What the document promises over the whole program: [1], [12], and answers without delay."""

from time import process_time

from tests.helper import FULL_NET, RICH_NET, NetCase, ring, wrong_nets
from treetally.errors import BadHanging, BadNet, BadNumber, BadTie, SelfTie, TooMany
from treetally.hangings import all_hangings, is_hanging
from treetally.nets import hangs, need_net, net_together, net_without, parts_of
from treetally.numbers import hanging_of, number_of
from treetally.shares import standing
from treetally.tallies import table_of, tally
from treetally.ways import exchanges

# Each function that is asked of a net, with how many more things it is handed.
FUNCTIONS = [
    (need_net, 0), (parts_of, 0), (hangs, 0), (net_without, 1), (net_together, 1), (table_of, 0),
    (tally, 0), (is_hanging, 1), (all_hangings, 1), (hanging_of, 1), (number_of, 1), (standing, 0),
    (exchanges, 2),
]


class RefusalTest(NetCase):
    def test_what_is_no_net_is_refused_whatever_else_is_wrong(self):
        for call, more in FUNCTIONS:
            for many, ties in wrong_nets():
                for thing in (0, -1, True, None, "0", [0], [1, 0], [None], (0,)):
                    self.assert_refused(BadNet, call, many, ties, *[thing] * more)

    def test_what_is_handed_in_stays_as_it_was(self):
        nets = [(8, [(0, 1)]), (3, [(0, 1), [1, 2]]), (2, [(0, 2)]), (7, ring(7)), (2, [(1, 1)])]
        for call, more in FUNCTIONS:
            things = [[0], [1, 0], [0, [1]], list(range(6))]
            if call is all_hangings:
                things = []
            for many, ties in nets:
                for thing in [0, 99, *things]:
                    self.assert_keeps_handed(call, many, ties, *[thing] * more)

    def test_each_refusal_of_one_net(self):
        ties = ring(4) + [(2, 2)]
        self.assert_refused(BadTie, net_without, 4, ties, 5)
        self.assert_refused(BadTie, net_together, 4, ties, 5)
        self.assert_refused(SelfTie, net_together, 4, ties, 4)
        self.assert_refused(BadHanging, number_of, 4, ties, [0, 1, 4])
        self.assert_refused(BadHanging, exchanges, 4, ties, [0, 1, 4], [0, 1, 2])
        self.assert_refused(BadHanging, exchanges, 4, ties, [0, 1, 2], [0, 1, 4])
        self.assert_refused(BadNumber, hanging_of, 4, ties, 4)
        self.assert_refused(TooMany, all_hangings, 4, ties, 3)


class DelayTest(NetCase):
    """The times are far greater than any that was measured, so that a slow machine passes."""

    def assert_soon(self, most, times, call, *handed):
        begun = process_time()
        for _ in range(times):
            call(*handed)
        self.assertLess(process_time() - begun, most * times, call.__name__)

    def test_numbers_and_refusals(self):
        for many, ties in (FULL_NET, RICH_NET):
            count = tally(many, ties)
            first, last = hanging_of(many, ties, 0), hanging_of(many, ties, count - 1)
            self.assert_soon(0.02, 20, hanging_of, many, ties, count - 1)
            self.assert_soon(0.02, 20, hanging_of, many, ties, count // 2)
            self.assert_soon(0.02, 20, number_of, many, ties, last)
            self.assert_soon(0.02, 20, is_hanging, many, ties, first)
            self.assert_soon(0.02, 20, exchanges, many, ties, first, last)
            self.assert_soon(0.02, 20, standing, many, ties)
            for call, more in FUNCTIONS:
                if more == 0:
                    self.assert_soon(0.02, 20, call, many, ties)

    def test_too_many(self):
        for many, ties in (FULL_NET, RICH_NET):
            count = tally(many, ties)
            for most in (0, count - 1):
                begun = process_time()
                for _ in range(20):
                    self.assert_refused(TooMany, all_hangings, many, ties, most)
                self.assertLess(process_time() - begun, 0.4)

    def test_all_hangings(self):
        for many, ties in (FULL_NET, RICH_NET):
            self.assert_soon(3, 1, all_hangings, many, ties, tally(many, ties))

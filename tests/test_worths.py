"""Point [8]: the worth of a table."""

from itertools import combinations, permutations, product

from tests.helper import NetCase
from treetally.worths import worth_of


def worth_by_orders(rows):
    """The worth as a sum over all orders of the places, which takes no row out first."""
    worth = 0
    for order in permutations(range(len(rows))):
        share = 1
        for row, place in zip(rows, order):
            share *= row[place]
        turned = sum(one > other for one, other in combinations(order, 2))
        worth += -share if turned % 2 else share
    return worth


def steps(size):
    """A table with a worth beside 0 whose numbers are all unlike."""
    return [[(row * 13 + at * at * 7) % 41 - 17 for at in range(size)] for row in range(size)]


def ones(size):
    return [[1 if at == row else 0 for at in range(size)] for row in range(size)]


class WorthTest(NetCase):
    def test_without_rows(self):
        self.assertEqual(worth_of([]), 1)

    def test_of_one_row(self):
        for number in (0, 1, -1, 5, -12, 10 ** 60):
            self.assertEqual(worth_of([[number]]), number)

    def test_of_two_rows(self):
        self.assertEqual(worth_of([[1, 2], [3, 4]]), -2)
        self.assertEqual(worth_of([[0, 2], [3, 4]]), -6)
        self.assertEqual(worth_of([[0, 1], [1, 0]]), -1)
        self.assertEqual(worth_of([[5, -3], [-2, 7]]), 29)

    def test_of_three_rows(self):
        self.assertEqual(worth_of([[2, 0, 1], [1, 3, 2], [1, 1, 4]]), 18)
        self.assertEqual(worth_of([[0, 0, 1], [0, 1, 0], [1, 0, 0]]), -1)
        self.assertEqual(worth_of([[0, 1, 0], [0, 0, 1], [1, 0, 0]]), 1)

    def test_of_all_small_tables(self):
        for numbers in product((-1, 0, 2), repeat=4):
            rows = [list(numbers[:2]), list(numbers[2:])]
            self.assertEqual(worth_of(rows), numbers[0] * numbers[3] - numbers[1] * numbers[2])
        for numbers in product((0, 1), repeat=9):
            rows = [list(numbers[at:at + 3]) for at in (0, 3, 6)]
            self.assertEqual(worth_of(rows), worth_by_orders(rows))

    def test_of_up_to_eight_rows(self):
        for size in range(9):
            self.assertEqual(worth_of(steps(size)), worth_by_orders(steps(size)))
            self.assertEqual(worth_of(ones(size)), 1)

    def test_of_eight_rows(self):
        self.assertEqual(worth_of([row[::-1] for row in ones(8)]), 1)
        self.assertEqual(worth_of([row[::-1] for row in ones(7)]), -1)
        self.assertEqual(worth_of(ones(8)[1:] + ones(8)[:1]), -1)
        slope = [[row + at + 1 if at >= row else 0 for at in range(8)] for row in range(8)]
        self.assertEqual(worth_of(slope), 1 * 3 * 5 * 7 * 9 * 11 * 13 * 15)
        rows = [[9 if at == row else 1 for at in range(8)] for row in range(8)]
        self.assertEqual(worth_of(rows), 16 * 8 ** 7)

    def test_of_rows_with_noughts(self):
        self.assertEqual(worth_of([[0, 0, 0], [1, 2, 3], [4, 5, 7]]), 0)
        self.assertEqual(worth_of([[0, 2, 3], [0, 5, 6], [0, 8, 1]]), 0)
        rows = [[0, 0, 3, 0], [0, 4, 0, 0], [5, 0, 0, 1], [0, 0, 2, 7]]
        self.assertEqual(worth_of(rows), worth_by_orders(rows))
        self.assertEqual(worth_of(rows), -420)
        self.assertEqual(worth_of([[0] * 8 for _ in range(8)]), 0)

    def test_of_numbers_of_many_figures(self):
        large = 10 ** 50 + 7
        self.assertEqual(worth_of([[large, 1], [1, large]]), large * large - 1)
        self.assertEqual(worth_of([[large, large - 1], [large + 1, large]]), 1)
        rows = [[number * 10 ** 40 + 3 * at for at, number in enumerate(row)] for row in steps(6)]
        self.assertEqual(worth_of(rows), worth_by_orders(rows))
        slope = [[large if at >= row else 0 for at in range(8)] for row in range(8)]
        self.assertEqual(worth_of(slope), large ** 8)

    def test_of_rows_of_which_one_is_the_sum_of_two_others(self):
        for size in range(3, 9):
            for at, one, other in ((0, 1, 2), (1, 0, 2), (size - 1, 0, size - 2)):
                rows = steps(size)
                rows[at] = [a + b for a, b in zip(rows[one], rows[other])]
                self.assertEqual(worth_of(rows), 0)

    def test_of_rows_that_are_alike(self):
        row = [3, 1, 4, 1]
        self.assertEqual(worth_of([row] * 4), 0)

    def test_two_rows_that_change_their_places(self):
        for size in range(2, 9):
            rows = steps(size)
            rows[0], rows[-1] = rows[-1], rows[0]
            self.assertEqual(worth_of(rows), -worth_of(steps(size)))

    def test_is_a_whole_number(self):
        for size in range(9):
            self.assertIs(type(worth_of(steps(size))), int)

    def test_keeps_what_is_handed_in(self):
        for size in range(9):
            rows = steps(size)
            inner = list(rows)
            self.assert_keeps_handed(worth_of, rows)
            for row, kept in zip(rows, inner):
                self.assertIs(row, kept)
            self.assertEqual(rows, steps(size))

    def test_tables_asked_one_behind_another(self):
        for _ in range(2):
            self.assertEqual(worth_of([[1, 2], [3, 4]]), -2)
            self.assertEqual(worth_of([[2, 0], [0, 2]]), 4)

    def test_a_table_that_the_asker_changes(self):
        rows = [[1, 2], [3, 4]]
        self.assertEqual(worth_of(rows), -2)
        rows[0][0] = 5
        self.assertEqual(worth_of(rows), 14)

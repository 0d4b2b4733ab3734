import itertools
import unittest

from rotstacks.costs import turned_pairs
from rotstacks.orders import told_order
from tests.stack_makers import (
    all_houses, chance_houses, chance_orders, cost_by_hours, make_stacks, sacks_taken, some_order, whole_orders,
)


def wanted_pairs(stacks, order):
    told = sacks_taken(stacks, told_order(stacks))
    other_numbers = [sack[0] for sack in sacks_taken(stacks, order)]
    rows = []
    # The combinations come by the place of the first in the told order, then by the place of the second.
    for one, two in itertools.combinations(told, 2):
        if other_numbers.index(one[0]) > other_numbers.index(two[0]):
            rows.append((one[0], two[0], one[2] * two[1] - two[2] * one[1]))
    return rows


class TurnedPairsTest(unittest.TestCase):
    def more(self, stacks, order):
        return (cost_by_hours(sacks_taken(stacks, order))
                - cost_by_hours(sacks_taken(stacks, told_order(stacks))))

    def check(self, stacks, order):
        rows = turned_pairs(stacks, order)
        self.assertEqual(rows, wanted_pairs(stacks, order), (stacks, order))
        self.assertEqual(sum(row[2] for row in rows), self.more(stacks, order), (stacks, order))
        if all(len(stack) <= 1 for stack in stacks):
            self.assertTrue(all(row[2] >= 0 for row in rows), (stacks, order))
        return rows

    def check_all(self, stacks):
        for order in whole_orders(stacks):
            rows = self.check(stacks, order)
            self.assertEqual(rows == [], order == told_order(stacks), (stacks, order))

    def check_kinds(self, rows):
        self.assertIs(type(rows), list)
        for row in rows:
            self.assertIs(type(row), tuple)
            self.assertEqual([type(value) for value in row], [int] * 3)

    def check_example(self, stacks, order, rows):
        self.assertEqual(turned_pairs(stacks, order), rows)
        self.check(stacks, order)
        self.check_kinds(turned_pairs(stacks, order))


class Examples(TurnedPairsTest):
    def test_no_sack(self):
        for stacks in ([], [[]], [[], []]):
            self.check_example(stacks, [], [])

    def test_the_told_order_itself_has_no_row(self):
        self.check_example([[(9, 3, 7)]], [1], [])
        self.check_example([[(9, 3, 7), (8, 2, 1)], [(2, 5, 5)]], [1, 2, 1], [])

    def test_one_pair(self):
        self.check_example([[(9, 3, 7)], [(4, 2, 1)]], [2, 1], [(9, 4, 7 * 2 - 1 * 3)])
        self.check_example([[(4, 2, 1)], [(9, 3, 7)]], [1, 2], [(9, 4, 7 * 2 - 1 * 3)])

    def test_a_pair_of_like_shares_has_a_row_with_nought(self):
        self.check_example([[(9, 2, 4)], [(4, 3, 6)]], [2, 1], [(9, 4, 0)])
        self.check_example([[(9, 2, 0)], [(4, 3, 0)]], [2, 1], [(9, 4, 0)])

    def test_the_rows_come_by_the_places_in_the_told_order_not_by_the_numbers(self):
        stacks = [[(1, 1, 1)], [(2, 1, 2)], [(3, 1, 3)]]
        self.check_example(stacks, [1, 2, 3], [(3, 2, 1), (3, 1, 2), (2, 1, 1)])
        self.check_example(stacks, [1, 3, 2], [(3, 1, 2), (2, 1, 1)])
        self.check_example(stacks, [2, 1, 3], [(3, 2, 1), (3, 1, 2)])

    def test_an_amount_below_nought_where_sacks_lie_on_one_another(self):
        stacks = [[(5, 1, 0), (6, 1, 20)], [(7, 1, 9)]]
        self.check_example(stacks, [1, 2, 1], [(6, 7, 11)])
        self.check_example(stacks, [2, 1, 1], [(5, 7, -9), (6, 7, 11)])

    def test_what_lies_beyond_the_bounds_is_not_refused(self):
        stacks = make_stacks([[(61, 101)], [(75, 130), (1, 0)], [], [(1, 1)], [(2, 1)], [(3, 9)]])
        self.check(stacks, some_order(stacks))


class ManyStacks(TurnedPairsTest):
    def test_small_stacks_in_full(self):
        for stacks in all_houses((1, 2), (0, 1, 2), 3, 3):
            self.check_all(stacks)

    def test_small_stacks_of_four_sacks_in_full(self):
        for stacks in all_houses((1, 3), (0, 2), 2, 4):
            self.check_all(stacks)

    def test_single_sacks_at_the_edges_in_full(self):
        for pairs in itertools.product(((1, 0), (60, 0), (1, 100), (60, 100)), repeat=4):
            self.check_all(make_stacks([[pair] for pair in pairs]))

    def test_up_to_six_sacks_over_all_orders(self):
        for stacks in chance_houses(51, 60, range(1, 61), range(0, 101), most_sacks=6):
            self.check_all(stacks)

    def test_many_sacks(self):
        for seed, stacks in enumerate(chance_houses(52, 150, range(1, 61), range(0, 101))):
            self.check_kinds(self.check(stacks, some_order(stacks)))
            for order in chance_orders(seed, stacks, 2):
                self.check(stacks, order)


if __name__ == "__main__":
    unittest.main()

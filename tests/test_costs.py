import functools
import unittest

from rotstacks.costs import least_cost, order_cost, order_plan
from rotstacks.orders import told_order
from tests.stack_makers import (
    all_houses, chance_houses, chance_orders, cost_by_hours, make_stacks, sacks_taken, some_order, whole_orders,
)


def least_by_tops(stacks):
    """The least cost over all whole orders, by the best first sack of each that may be taken, for many sacks."""
    @functools.cache
    def least(taken):
        left = [sack for stack, many in zip(stacks, taken) for sack in stack[many:]]
        rate = sum(sack[2] for sack in left)
        costs = []
        for place, stack in enumerate(stacks):
            if taken[place] < len(stack):
                later = taken[:place] + (taken[place] + 1,) + taken[place + 1:]
                costs.append(stack[taken[place]][1] * rate + least(later))
        return min(costs, default=0)
    return least((0,) * len(stacks))


class CostsTest(unittest.TestCase):
    def check_plan(self, stacks, order):
        plan = order_plan(stacks, order)
        sacks = sacks_taken(stacks, order)
        self.assertEqual([row[0] for row in plan], [sack[0] for sack in sacks], stacks)
        self.assertEqual([row[1] for row in plan], order, stacks)
        hour = 0
        for (number, at, begun, dry), sack in zip(plan, sacks):
            self.assertEqual(begun, hour, (stacks, order))
            self.assertEqual(dry - begun, sack[1], (stacks, order))
            hour = dry
        return plan

    def check_cost(self, stacks, order):
        losses = {sack[0]: sack[2] for stack in stacks for sack in stack}
        by_plan = sum(losses[number] * dry for number, at, begun, dry in self.check_plan(stacks, order))
        cost = order_cost(stacks, order)
        self.assertEqual(cost, by_plan, (stacks, order))
        return cost

    def check_hours(self, stacks, order):
        self.assertEqual(order_cost(stacks, order), cost_by_hours(sacks_taken(stacks, order)), (stacks, order))

    def check_kinds(self, stacks, order):
        plan = order_plan(stacks, order)
        self.assertIs(type(plan), list)
        for row in plan:
            self.assertIs(type(row), tuple)
            self.assertEqual([type(value) for value in row], [int] * 4)
        self.assertIs(type(order_cost(stacks, order)), int)
        self.assertIs(type(least_cost(stacks)), int)

    def check_example(self, stacks, order, plan, cost):
        self.assertEqual(order_plan(stacks, order), plan)
        self.assertEqual(order_cost(stacks, order), cost)
        self.check_cost(stacks, order)
        self.check_hours(stacks, order)
        self.check_kinds(stacks, order)


class Examples(CostsTest):
    def test_no_sack(self):
        for stacks in ([], [[]], [[], [], [], [], []]):
            self.check_example(stacks, [], [], 0)
            self.assertEqual(least_cost(stacks), 0)

    def test_one_sack(self):
        self.check_example([[(9, 3, 7)]], [1], [(9, 1, 0, 3)], 21)
        self.check_example([[], [(60, 60, 100)]], [2], [(60, 2, 0, 60)], 6000)
        self.check_example([[(1, 1, 0)]], [1], [(1, 1, 0, 1)], 0)

    def test_the_tops_are_taken_in_turn(self):
        stacks = [[(5, 2, 3), (6, 1, 9)], [], [(2, 4, 4)]]
        self.check_example(stacks, [1, 1, 3], [(5, 1, 0, 2), (6, 1, 2, 3), (2, 3, 3, 7)], 6 + 27 + 28)
        self.check_example(stacks, [1, 3, 1], [(5, 1, 0, 2), (2, 3, 2, 6), (6, 1, 6, 7)], 6 + 24 + 63)
        self.check_example(stacks, [3, 1, 1], [(2, 3, 0, 4), (5, 1, 4, 6), (6, 1, 6, 7)], 16 + 18 + 63)
        self.assertEqual(least_cost(stacks), 61)

    def test_the_greatest_cost_within_the_bounds(self):
        stacks = make_stacks([[(60, 100)] * 14])
        self.assertEqual(order_cost(stacks, [1] * 14), 630000)
        self.assertEqual(least_cost(stacks), 630000)

    def test_orders_of_like_cost(self):
        stacks = make_stacks([[(2, 4)], [(3, 6)]])
        self.assertEqual(order_cost(stacks, [1, 2]), 38)
        self.assertEqual(order_cost(stacks, [2, 1]), 38)

    def test_what_lies_beyond_the_bounds_is_not_refused(self):
        stacks = make_stacks([[(61, 101)], [(75, 130), (1, 0)], [], [(1, 1)], [(2, 1)], [(3, 9)]])
        self.check_cost(stacks, some_order(stacks))
        self.check_cost(stacks, told_order(stacks))
        self.assertEqual(least_cost(stacks), least_by_tops(stacks))
        great = 10 ** 40
        self.assertEqual(order_cost([[(61, great, great)]], [1]), great * great)


class ManyStacks(CostsTest):
    def check_none_costs_less(self, stacks):
        costs = [self.check_cost(stacks, order) for order in whole_orders(stacks)]
        least = least_cost(stacks)
        self.assertEqual(least, min(costs), stacks)
        self.assertEqual(order_cost(stacks, told_order(stacks)), least, stacks)

    def test_small_stacks_in_full(self):
        for stacks in all_houses((1, 2), (0, 1, 2), 3, 3):
            self.check_none_costs_less(stacks)
            for order in whole_orders(stacks):
                self.check_hours(stacks, order)

    def test_small_stacks_of_four_sacks_in_full(self):
        for stacks in all_houses((1, 3), (0, 2), 3, 4):
            self.check_none_costs_less(stacks)

    def test_small_stacks_at_the_edges_in_full(self):
        for stacks in all_houses((1, 60), (0, 100), 2, 4):
            self.check_none_costs_less(stacks)

    def test_up_to_seven_sacks_over_all_orders(self):
        for stacks in chance_houses(41, 120, range(1, 61), range(0, 101), most_sacks=7):
            self.check_none_costs_less(stacks)

    def test_up_to_fourteen_sacks_against_the_least_over_all_orders(self):
        for stacks in chance_houses(42, 60, range(1, 61), range(0, 101)):
            self.assertEqual(least_cost(stacks), least_by_tops(stacks), stacks)
        for stacks in chance_houses(43, 60, (1, 2, 60), (0, 1, 2, 100)):
            self.assertEqual(least_cost(stacks), least_by_tops(stacks), stacks)

    def test_other_orders_of_many_sacks(self):
        for seed, stacks in enumerate(chance_houses(44, 300, range(1, 61), range(0, 101))):
            for order in chance_orders(seed, stacks, 4):
                self.assertGreaterEqual(self.check_cost(stacks, order), least_cost(stacks), (stacks, order))
                self.check_kinds(stacks, order)
                if seed < 60:
                    self.check_hours(stacks, order)


if __name__ == "__main__":
    unittest.main()

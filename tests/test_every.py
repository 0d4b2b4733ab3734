import copy
import math
import unittest

from rotstacks.costs import least_cost
from rotstacks.errors import TooManyOrders
from rotstacks.every import all_orders, least_of_all
from tests.stack_makers import (
    all_heights, all_houses, chance_houses, cost_by_hours, make_stacks, sacks_taken, whole_orders,
)


class EveryTest(unittest.TestCase):
    def stacks_of_heights(self, heights):
        return make_stacks([[(2, 3)] * height for height in heights])

    def check_orders(self, stacks):
        orders = all_orders(stacks)
        self.assertEqual(orders, whole_orders(stacks), stacks)
        self.assertTrue(all(one < two for one, two in zip(orders, orders[1:])), stacks)
        many = math.factorial(sum(len(stack) for stack in stacks))
        for stack in stacks:
            many //= math.factorial(len(stack))
        self.assertEqual(len(orders), many, stacks)

    def check_least(self, stacks):
        costs = [cost_by_hours(sacks_taken(stacks, order)) for order in whole_orders(stacks)]
        wanted = (len(costs), min(costs), costs.count(min(costs)))
        answer = least_of_all(stacks)
        self.assertEqual(answer, wanted, stacks)
        self.assertEqual(answer[1], least_cost(stacks), stacks)
        self.assertIs(type(answer), tuple)
        self.assertEqual([type(value) for value in answer], [int] * 3)

    def check_refused(self, stacks):
        before = copy.deepcopy(stacks)
        for function in (all_orders, least_of_all):
            with self.assertRaises(TooManyOrders) as caught:
                function(stacks)
            self.assertIs(type(caught.exception), TooManyOrders)
            self.assertEqual(stacks, before)


class AllOrders(EveryTest):
    def test_of_no_sacks_the_empty_list_alone(self):
        for stacks in ([], [[]], [[], [], [], [], []]):
            self.assertEqual(all_orders(stacks), [[]])

    def test_one_stack_has_one_order(self):
        for height in range(8):
            self.assertEqual(all_orders(self.stacks_of_heights([height])), [[1] * height])

    def test_in_the_order_of_a_dictionary(self):
        self.assertEqual(all_orders(self.stacks_of_heights([1, 0, 2])), [[1, 3, 3], [3, 1, 3], [3, 3, 1]])
        self.assertEqual(all_orders(self.stacks_of_heights([1, 1, 1])),
                         [[1, 2, 3], [1, 3, 2], [2, 1, 3], [2, 3, 1], [3, 1, 2], [3, 2, 1]])

    def test_kinds(self):
        orders = all_orders(self.stacks_of_heights([1, 0, 2]))
        self.assertIs(type(orders), list)
        for order in orders:
            self.assertIs(type(order), list)
            self.assertTrue(all(type(at) is int for at in order))

    def test_the_sacks_themselves_do_not_matter(self):
        for stacks in chance_houses(71, 100, range(1, 61), range(0, 101), most_sacks=6):
            self.check_orders(stacks)

    def test_all_heights_up_to_five_sacks(self):
        for heights in all_heights(5, 5):
            self.check_orders(self.stacks_of_heights(heights))

    def test_seven_sacks(self):
        for heights in all_heights(3, 7):
            if sum(heights) >= 6:
                self.check_orders(self.stacks_of_heights(heights))
        for heights in ((2, 2, 1, 1, 1), (3, 1, 1, 1, 1), (0, 2, 0, 3, 2), (1, 1, 1, 1, 3)):
            self.check_orders(self.stacks_of_heights(heights))


class LeastOfAll(EveryTest):
    def test_no_sacks(self):
        for stacks in ([], [[]], [[], []]):
            self.assertEqual(least_of_all(stacks), (1, 0, 1))

    def test_examples(self):
        self.assertEqual(least_of_all([[(9, 3, 7)]]), (1, 21, 1))
        self.assertEqual(least_of_all([[(9, 2, 4)], [(4, 3, 6)]]), (2, 38, 2))
        self.assertEqual(least_of_all([[(5, 2, 3), (6, 1, 9)], [], [(2, 4, 4)]]), (3, 61, 1))

    def test_no_loss_at_all(self):
        self.assertEqual(least_of_all(make_stacks([[(3, 0)] * 3, [(5, 0)] * 4])), (35, 0, 35))

    def test_small_stacks_in_full(self):
        for stacks in all_houses((1, 2), (0, 1, 2), 3, 3):
            self.check_least(stacks)

    def test_small_stacks_of_four_sacks_in_full(self):
        for stacks in all_houses((1, 3), (0, 2), 2, 4):
            self.check_least(stacks)

    def test_up_to_seven_sacks(self):
        for stacks in chance_houses(72, 60, range(1, 13), range(0, 101), most_sacks=7):
            self.check_least(stacks)
        for stacks in chance_houses(73, 60, (1, 2, 4), (0, 1, 2, 4), most_sacks=7):
            self.check_least(stacks)


class TooMany(EveryTest):
    def test_seven_sacks_and_eight(self):
        for heights in ((7,), (4, 3), (0, 7, 0), (2, 2, 1, 1, 1)):
            stacks = self.stacks_of_heights(heights)
            self.check_orders(stacks)
            self.check_least(stacks)
            for stack in stacks:
                stack.append((60, 1, 1))
                self.check_refused(stacks)
                stack.pop()

    def test_all_heights_of_eight_sacks(self):
        for heights in all_heights(4, 8):
            if sum(heights) == 8:
                self.check_refused(self.stacks_of_heights(heights))

    def test_more_than_eight(self):
        for heights in ((14,), (3, 3, 3, 3, 2), (9, 0), (20,)):
            self.check_refused(self.stacks_of_heights(heights))


if __name__ == "__main__":
    unittest.main()

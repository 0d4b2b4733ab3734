import copy
import itertools
import unittest

from rotstacks.costs import order_cost, order_plan, turned_pairs
from rotstacks.errors import EmptyStack, ShortOrder, UnknownStack
from rotstacks.reasons import why_more
from tests.stack_makers import all_heights, chance_houses, chance_orders, house_of, make_stacks



def against(stacks, order):
    return house_of(stacks).against(order)


HANDED_AN_ORDER = (order_plan, order_cost, turned_pairs, why_more, against)
UNKNOWN = (0, -1, -2, -5, 10 ** 30, -10 ** 30, 10 ** 5000, -10 ** 5000)


def wanted_refusal(stacks, order):
    """The refusal by the words of the document, or None for a whole order."""
    numbers = range(1, len(stacks) + 1)
    if any(at not in numbers for at in order):
        return UnknownStack
    if any(order.count(at) > len(stacks[at - 1]) for at in order):
        return EmptyStack
    if any(order.count(at) < len(stacks[at - 1]) for at in numbers):
        return ShortOrder
    return None


class RefusalsTest(unittest.TestCase):
    def check(self, stacks, order, wanted):
        stacks_before = copy.deepcopy(stacks)
        order_before = list(order)
        for function in HANDED_AN_ORDER:
            place = (function.__name__, stacks, order[:20])
            try:
                function(stacks, order)
                raised = None
            except ValueError as refusal:
                raised = type(refusal)
            self.assertIs(raised, wanted, place)
            self.assertEqual(stacks, stacks_before, place)
            self.assertEqual(order, order_before, place)


class EachAlone(RefusalsTest):
    def setUp(self):
        self.stacks = make_stacks([[(2, 3), (1, 9)], [], [(4, 4)]])

    def test_whole_orders_are_not_refused(self):
        for order in ([1, 1, 3], [1, 3, 1], [3, 1, 1]):
            self.check(self.stacks, order, None)

    def test_an_unknown_number_wherever_it_stands(self):
        for number in UNKNOWN + (4, 5):
            for place in range(4):
                order = [1, 3, 1]
                order.insert(place, number)
                self.check(self.stacks, order, UnknownStack)

    def test_a_number_below_nought_is_not_counted_from_the_end(self):
        for number in (0, -1, -2, -3):
            self.check(self.stacks, [1, 1, number], UnknownStack)

    def test_nothing_lay_on_the_stack(self):
        for place in range(4):
            order = [1, 3, 1]
            order.insert(place, 2)
            self.check(self.stacks, order, EmptyStack)

    def test_nothing_is_left_on_the_stack(self):
        self.check(self.stacks, [1, 1, 1, 3], EmptyStack)
        self.check(self.stacks, [1, 1, 3, 1], EmptyStack)
        self.check(self.stacks, [3, 1, 1, 3], EmptyStack)

    def test_a_sack_is_left_over(self):
        for order in ([], [1], [3], [1, 1], [1, 3], [3, 1]):
            self.check(self.stacks, order, ShortOrder)

    def test_no_stacks_and_empty_stacks(self):
        for number in UNKNOWN + (1,):
            self.check([], [number], UnknownStack)
        self.check([], [], None)
        self.check([[]], [], None)
        self.check([[], []], [1], EmptyStack)
        self.check([[], []], [2], EmptyStack)
        self.check([[], []], [3], UnknownStack)

    def test_five_stacks(self):
        stacks = make_stacks([[(1, 1)], [(2, 2)], [(3, 3)], [(4, 4)], [(5, 5)]])
        self.check(stacks, [5, 4, 3, 2, 1], None)
        self.check(stacks, [6, 4, 3, 2, 1], UnknownStack)
        self.check(stacks, [5, 4, 3, 2, 0], UnknownStack)
        self.check(stacks, [5, 4, 3, 2, 5], EmptyStack)
        self.check(stacks, [5, 4, 3, 2], ShortOrder)


class SeveralAtOnce(RefusalsTest):
    def setUp(self):
        self.stacks = make_stacks([[(2, 3), (1, 9)], [], [(4, 4)]])

    def test_an_unknown_number_at_the_last_place_behind_one_of_an_empty_stack(self):
        for number in UNKNOWN + (4,):
            self.check(self.stacks, [2, 1, 1, 3, number], UnknownStack)
            self.check(self.stacks, [1, 1, 1, 3, number], UnknownStack)

    def test_an_unknown_number_in_a_short_order(self):
        for number in UNKNOWN + (4,):
            self.check(self.stacks, [number], UnknownStack)
            self.check(self.stacks, [1, number], UnknownStack)
            self.check(self.stacks, [1, 1, number], UnknownStack)

    def test_a_short_order_with_an_empty_stack_in_it(self):
        self.check(self.stacks, [2], EmptyStack)
        self.check(self.stacks, [1, 2], EmptyStack)
        self.check(self.stacks, [1, 1, 1], EmptyStack)
        self.check(self.stacks, [3, 3, 1], EmptyStack)

    def test_all_three(self):
        for number in UNKNOWN + (4,):
            self.check(self.stacks, [2, number], UnknownStack)
            self.check(self.stacks, [number, 2], UnknownStack)
            self.check(self.stacks, [3, 3, number], UnknownStack)


class ManyOrders(RefusalsTest):
    def test_small_orders_in_full(self):
        for heights in all_heights(3, 3):
            stacks = make_stacks([[(2, 3)] * height for height in heights])
            for length in range(5):
                for order in itertools.product(range(-1, len(heights) + 2), repeat=length):
                    self.check(stacks, list(order), wanted_refusal(stacks, list(order)))

    def test_long_orders(self):
        stacks = make_stacks([[(2, 3)] * 7, [(1, 1)] * 7])
        self.check(stacks, [1, 2] * 7, None)
        self.check(stacks, [1, 2] * 20000, EmptyStack)
        self.check(stacks, [1, 2] * 20000 + [3], UnknownStack)
        self.check(stacks, [1, 2] * 6 + [1], ShortOrder)

    def test_an_order_with_one_number_changed_or_less_or_more(self):
        for seed, stacks in enumerate(chance_houses(31, 200, range(1, 61), range(0, 101))):
            for order in chance_orders(seed, stacks, 2):
                self.check(stacks, order, None)
                for at in range(len(stacks) + 2):
                    longer = order + [at]
                    self.check(stacks, longer, wanted_refusal(stacks, longer))
                    if order:
                        changed = [at] + order[1:]
                        self.check(stacks, changed, wanted_refusal(stacks, changed))
                if order:
                    self.check(stacks, order[1:], ShortOrder)
                    self.check(stacks, order[:-1], ShortOrder)


if __name__ == "__main__":
    unittest.main()

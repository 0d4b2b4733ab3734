"""Nothing that is handed in is changed or kept, and every list that is told is made anew, for all functions."""

import copy
import unittest

from rotstacks.blocks import stack_blocks
from rotstacks.costs import least_cost, order_cost, order_plan, turned_pairs
from rotstacks.drying import dry_on
from rotstacks.every import all_orders, least_of_all
from rotstacks.losses import lost_by
from rotstacks.orders import block_turns, told_order
from rotstacks.reasons import why_least, why_more
from tests.stack_makers import (
    all_houses, answer_of, chance_houses, chance_orders, lists_within, make_stacks, some_order,
)

OF_STACKS = (block_turns, told_order, least_cost, why_least, all_orders, least_of_all, dry_on)
OF_STACKS_AND_ORDER = (order_plan, order_cost, turned_pairs, why_more)


def calls(stacks, order):
    for function in OF_STACKS:
        yield function, (stacks,)
    for function in OF_STACKS_AND_ORDER:
        yield function, (stacks, order)
    for stack in stacks:
        yield stack_blocks, (stack,)
    stretches = [(begun, dry, begun + dry) for number, at, begun, dry in order_plan(stacks, some_order(stacks))]
    for hour in (-1, 0, 1, 5, 10 ** 30):
        yield lost_by, (stretches, hour)


class NothingKept(unittest.TestCase):
    def check(self, stacks, order):
        for function, arguments in calls(stacks, order):
            before = copy.deepcopy(arguments)
            answers = [answer_of(function, *arguments) for turn in range(2)]
            self.assertEqual(arguments, before, function.__name__)
            self.assertEqual(answers[0], answers[1], function.__name__)
            self.check_lists_are_unshared(function, arguments, answers)
            self.check_a_changed_answer_changes_nothing(function, arguments, answers)
            self.assertEqual(arguments, before, function.__name__)

    def check_lists_are_unshared(self, function, arguments, answers):
        lists = lists_within(answers)
        for handed in arguments:
            lists += lists_within(handed)
        self.assertEqual(len({id(found) for found in lists}), len(lists), function.__name__)

    def check_a_changed_answer_changes_nothing(self, function, arguments, answers):
        wanted = copy.deepcopy(answers[1])
        for found in lists_within(answers[0]):
            found.clear()
            found.append("changed")
        self.assertEqual(answers[1], wanted, function.__name__)
        self.assertEqual(answer_of(function, *arguments), wanted, function.__name__)

    def test_examples(self):
        examples = ([], [[]], [[], []], [[(3, 7)]], [[(1, 0), (1, 20)], [(1, 9)]], [[(2, 4), (3, 6)], [], [(1, 2)]])
        for columns in examples:
            stacks = make_stacks(columns)
            self.check(stacks, some_order(stacks))
            self.check(stacks, told_order(stacks))

    def test_small_stacks_in_full(self):
        for stacks in all_houses((1, 2), (0, 1), 2, 3):
            self.check(stacks, some_order(stacks))

    def test_many_sacks(self):
        for seed, stacks in enumerate(chance_houses(81, 60, range(1, 61), range(0, 101), most_sacks=9)):
            for order in chance_orders(seed, stacks, 1):
                self.check(stacks, order)

    def test_behind_a_refusal(self):
        for stacks in chance_houses(82, 60, range(1, 61), range(0, 101)):
            order = some_order(stacks)
            for refused in (order + [0], order + [10 ** 12], order + [-1], order + [1], order + [1, 9], order[1:]):
                self.check(stacks, refused)

    def test_what_is_told_stays_when_what_was_handed_in_is_changed_later(self):
        for function in OF_STACKS + OF_STACKS_AND_ORDER:
            stacks = make_stacks([[(1, 0), (1, 20)], [(1, 9)]])
            order = [2, 1, 1]
            arguments = (stacks,) if function in OF_STACKS else (stacks, order)
            told = function(*arguments)
            wanted = copy.deepcopy(told)
            stacks[0].pop()
            stacks[1].append((60, 5, 5))
            order[1] = 2
            self.assertEqual(told, wanted, function.__name__)
            self.assertEqual(function(*arguments), function(*copy.deepcopy(arguments)), function.__name__)
            self.assertNotEqual(function(*arguments), wanted, function.__name__)


if __name__ == "__main__":
    unittest.main()

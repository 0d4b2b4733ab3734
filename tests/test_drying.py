import unittest

from rotstacks.costs import least_cost, order_plan
from rotstacks.drying import dry_on
from rotstacks.orders import told_order
from tests.stack_makers import (
    all_houses, chance_houses, cost_by_hours, make_stacks, order_by_words, sacks_taken,
)


def rows_by_words(stacks):
    """The rows by the words of the document: told anew behind each sack, and lost hour by hour."""
    left = [list(stack) for stack in stacks]
    rows = []
    hour = 0
    lost = 0
    while any(left):
        stack = left[order_by_words(left)[0] - 1]
        for gone in range(stack[0][1]):
            lost += sum(sack[2] for other in left for sack in other)
            hour += 1
        number = stack.pop(0)[0]
        rows.append((number, hour, lost, cost_by_hours(sacks_taken(left, order_by_words(left)))))
    return rows


class DryingTest(unittest.TestCase):
    def check(self, stacks):
        rows = dry_on(stacks)
        plan = order_plan(stacks, told_order(stacks))
        self.assertEqual([row[0] for row in rows], [row[0] for row in plan], stacks)
        self.assertEqual([row[1] for row in rows], [row[3] for row in plan], stacks)
        least = least_cost(stacks)
        for number, hour, lost, left in rows:
            self.assertEqual(lost + left, least, stacks)
        if rows:
            self.assertEqual(rows[-1][2:], (least, 0), stacks)
        self.assertEqual(len(rows), sum(len(stack) for stack in stacks), stacks)

    def check_by_words(self, stacks):
        self.check(stacks)
        self.assertEqual(dry_on(stacks), rows_by_words(stacks), stacks)

    def check_kinds(self, stacks):
        rows = dry_on(stacks)
        self.assertIs(type(rows), list)
        for row in rows:
            self.assertIs(type(row), tuple)
            self.assertEqual([type(value) for value in row], [int] * 4)

    def check_example(self, stacks, rows):
        self.assertEqual(dry_on(stacks), rows)
        self.check_by_words(stacks)
        self.check_kinds(stacks)


class Examples(DryingTest):
    def test_no_stacks_and_empty_stacks(self):
        for stacks in ([], [[]], [[], [], [], [], []]):
            self.check_example(stacks, [])

    def test_one_sack(self):
        self.check_example([[(9, 3, 7)]], [(9, 3, 21, 0)])
        self.check_example([[], [(60, 60, 100)], []], [(60, 60, 6000, 0)])
        self.check_example([[(1, 1, 0)]], [(1, 1, 0, 0)])

    def test_the_one_in_the_hands_costs_until_it_is_dry(self):
        self.check_example([[(5, 2, 3), (6, 1, 9)], [], [(2, 4, 4)]],
                           [(5, 2, 32, 29), (6, 3, 45, 16), (2, 7, 61, 0)])

    def test_a_block_that_is_begun_is_gone_on_with(self):
        self.check_example([[(5, 1, 0), (6, 1, 20)], [(7, 1, 9)]],
                           [(5, 1, 29, 38), (6, 2, 58, 9), (7, 3, 67, 0)])

    def test_stacks_that_are_empty_first_or_later(self):
        self.check_example([[(8, 1, 50)], [(3, 2, 4)], [(4, 3, 6)]],
                           [(8, 1, 60, 38), (3, 3, 80, 18), (4, 6, 98, 0)])
        self.check_example([[(8, 1, 50)], [], [(3, 2, 4)], [(4, 3, 6)], []],
                           [(8, 1, 60, 38), (3, 3, 80, 18), (4, 6, 98, 0)])

    def test_like_shares_are_dried_by_the_stacks_numbers(self):
        self.check_example([[(1, 2, 4), (2, 2, 4)], [(3, 1, 2), (4, 3, 6)]],
                           [(1, 2, 32, 50), (2, 4, 56, 26), (3, 5, 64, 18), (4, 8, 82, 0)])

    def test_fourteen_sacks(self):
        rows = [(place, 60 * place, 6000 * sum(range(15 - place, 15)), 6000 * sum(range(1, 15 - place)))
                for place in range(1, 15)]
        self.check_example([[(place, 60, 100) for place in range(1, 15)]], rows)

    def test_what_lies_beyond_the_bounds_is_not_refused(self):
        self.check_by_words(make_stacks([[(61, 101)], [(75, 130), (1, 0)], [], [(1, 1)], [(2, 1)], [(3, 9)]]))
        self.check_by_words(make_stacks([[(hours, 20 - hours)] * 2 for hours in range(1, 11)]))
        great = 10 ** 40
        self.assertEqual(dry_on([[(61, great, great)]]), [(61, great, great * great, 0)])


class ManyStacks(DryingTest):
    def test_small_stacks_in_full(self):
        for stacks in all_houses((1, 2), (0, 1, 2), 3, 3):
            self.check_by_words(stacks)

    def test_small_stacks_of_four_sacks_in_full(self):
        for stacks in all_houses((1, 3), (0, 2), 3, 4):
            self.check_by_words(stacks)

    def test_small_stacks_at_the_edges_in_full(self):
        for stacks in all_houses((1, 60), (0, 100), 2, 4):
            self.check(stacks)

    def test_many_sacks_over_all_the_bounds(self):
        for stacks in chance_houses(101, 120, range(1, 61), range(0, 101)):
            self.check_by_words(stacks)
            self.check_kinds(stacks)
        for stacks in chance_houses(102, 300, range(1, 61), range(0, 101)):
            self.check(stacks)

    def test_many_sacks_with_like_shares(self):
        for stacks in chance_houses(103, 300, (1, 2, 4), (0, 1, 2, 4)):
            self.check_by_words(stacks)

    def test_five_stacks_of_fourteen_sacks(self):
        tried = 0
        for stacks in chance_houses(104, 4000, (1, 2, 3), (0, 1, 2, 3)):
            if len(stacks) == 5 and sum(len(stack) for stack in stacks) == 14:
                tried += 1
                self.check_by_words(stacks)
        self.assertGreater(tried, 30)


if __name__ == "__main__":
    unittest.main()

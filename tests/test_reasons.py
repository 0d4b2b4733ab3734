import unittest
from fractions import Fraction

from rotstacks.orders import block_turns, told_order
from rotstacks.reasons import why_least, why_more
from tests.stack_makers import (
    all_houses, chance_houses, chance_orders, cost_by_hours, make_stacks, parted, sacks_taken, some_order, sums,
    whole_orders,
)


def blocks_in_turn(stacks):
    """Tuples (stack's number, sacks) of the blocks in their turns, found another way than the program finds them."""
    blocks = [(at, part) for at, stack in enumerate(stacks, start=1) for part in parted(stack)]
    return sorted(blocks, key=lambda block: (-Fraction(sums(block[1])[1], sums(block[1])[0]), block[0]))


def wanted_debt(block, many):
    hours, loss = sums(block)
    begun_hours, begun_loss = sums(block[:many])
    return loss * begun_hours - hours * begun_loss


def wanted_least(stacks):
    blocks = blocks_in_turn(stacks)
    rows = []
    for turn, (at, block) in enumerate(blocks):
        hours, loss = sums(block)
        fall = 0
        if turn + 1 < len(blocks):
            later_hours, later_loss = sums(blocks[turn + 1][1])
            fall = loss * later_hours - later_loss * hours
        debts = [wanted_debt(block, many) for many in range(1, len(block))]
        rows.append((at, len(block), hours, loss, debts, fall))
    return rows


def wanted_turned(first, second, numbers):
    total = sum(one[1] * two[1] for one in first for two in second
                if numbers.index(one[0]) > numbers.index(two[0]))
    hours, loss = sums(first)
    later_hours, later_loss = sums(second)
    over = (loss * later_hours - later_loss * hours) * total
    return ("turned", first[0][0], second[0][0], over, hours * later_hours)


def wanted_parted(block, many, sacks):
    """The row of the sacks on both sides of the place behind so many sacks of the block."""
    upper = block[many - 1]
    lower = block[many]
    between = sacks[sacks.index(upper) + 1:sacks.index(lower)]
    return ("parted", upper[0], lower[0], wanted_debt(block, many) * sums(between)[0], sums(block)[0])


def wanted_more(stacks, order):
    blocks = [block for at, block in blocks_in_turn(stacks)]
    sacks = sacks_taken(stacks, order)
    numbers = [sack[0] for sack in sacks]
    rows = [wanted_turned(first, second, numbers)
            for turn, first in enumerate(blocks) for second in blocks[turn + 1:]]
    rows += [wanted_parted(block, many, sacks) for block in blocks for many in range(1, len(block))]
    return [row for row in rows if row[3] != 0]


class WhyLeastTest(unittest.TestCase):
    def check(self, stacks):
        rows = why_least(stacks)
        self.assertEqual(rows, wanted_least(stacks), stacks)
        self.assertEqual([row[:4] for row in rows], block_turns(stacks), stacks)
        for at, many, hours, loss, debts, fall in rows:
            self.assertEqual(len(debts), many - 1, stacks)
            self.assertTrue(all(debt >= 0 for debt in debts), stacks)
            self.assertGreaterEqual(fall, 0, stacks)
        if rows:
            self.assertEqual(rows[-1][5], 0, stacks)
        return rows

    def check_kinds(self, rows):
        self.assertIs(type(rows), list)
        for row in rows:
            self.assertIs(type(row), tuple)
            self.assertEqual([type(value) for value in row], [int, int, int, int, list, int])
            self.assertTrue(all(type(debt) is int for debt in row[4]))

    def check_example(self, columns, wanted):
        stacks = make_stacks(columns)
        self.assertEqual(why_least(stacks), wanted)
        self.check_kinds(self.check(stacks))

    def test_no_sack(self):
        self.check_example([], [])
        self.check_example([[], []], [])

    def test_one_block(self):
        self.check_example([[(3, 7)]], [(1, 1, 3, 7, [], 0)])
        self.check_example([[(4, 1), (2, 5)]], [(1, 2, 6, 6, [6 * 4 - 6 * 1], 0)])

    def test_debts_from_the_shortest_beginning_on(self):
        self.check_example([[(1, 0), (2, 3), (1, 9)]], [(1, 3, 4, 12, [12 * 1 - 4 * 0, 12 * 3 - 4 * 3], 0)])

    def test_like_shares_have_debts_and_falls_of_nought(self):
        self.check_example([[(2, 4), (3, 6)], [(1, 2)]], [(1, 2, 5, 10, [0], 0), (2, 1, 1, 2, [], 0)])
        self.check_example([[(2, 0), (3, 0)], [(1, 0)]], [(1, 2, 5, 0, [0], 0), (2, 1, 1, 0, [], 0)])

    def test_the_fall_is_towards_the_next_turn_not_the_next_block_of_the_stack(self):
        self.check_example([[(1, 9), (2, 1)], [(3, 6)]],
                           [(1, 1, 1, 9, [], 9 * 3 - 6 * 1), (2, 1, 3, 6, [], 6 * 2 - 1 * 3), (1, 1, 2, 1, [], 0)])

    def test_the_edges(self):
        self.check_example([[(60, 0)] * 13 + [(1, 100)]],
                           [(1, 14, 781, 100, [100 * 60 * many for many in range(1, 14)], 0)])
        self.check_example([[(60, 0)], [(1, 100)]], [(2, 1, 1, 100, [], 6000), (1, 1, 60, 0, [], 0)])

    def test_what_lies_beyond_the_bounds_is_not_refused(self):
        self.check(make_stacks([[(61, 101)], [(75, 130), (1, 0)], [], [(1, 1)], [(2, 1)], [(3, 9)]]))

    def test_small_stacks_in_full(self):
        for stacks in all_houses((1, 2), (0, 1, 2), 2, 4):
            self.check(stacks)

    def test_small_stacks_at_the_edges_in_full(self):
        for stacks in all_houses((1, 60), (0, 100), 3, 4):
            self.check(stacks)

    def test_many_sacks(self):
        for stacks in chance_houses(61, 800, range(1, 61), range(0, 101)):
            self.check_kinds(self.check(stacks))
        for stacks in chance_houses(62, 800, (1, 2, 4), (0, 1, 2, 4), most_stacks=3):
            self.check(stacks)


class WhyMoreTest(unittest.TestCase):
    def check(self, stacks, order):
        rows = why_more(stacks, order)
        self.assertEqual(rows, wanted_more(stacks, order), (stacks, order))
        self.assertTrue(all(row[3] > 0 and row[4] > 0 for row in rows), (stacks, order))
        more = (cost_by_hours(sacks_taken(stacks, order))
                - cost_by_hours(sacks_taken(stacks, told_order(stacks))))
        self.assertEqual(sum(Fraction(row[3], row[4]) for row in rows), more, (stacks, order))
        self.assertEqual(rows == [], more == 0, (stacks, order))
        return rows

    def check_kinds(self, rows):
        self.assertIs(type(rows), list)
        for row in rows:
            self.assertIs(type(row), tuple)
            self.assertEqual([type(value) for value in row], [str, int, int, int, int])

    def check_example(self, stacks, order, wanted):
        self.assertEqual(why_more(stacks, order), wanted)
        self.check_kinds(self.check(stacks, order))

    def test_no_sack(self):
        for stacks in ([], [[]], [[], []]):
            self.check_example(stacks, [], [])

    def test_the_told_order_has_no_reason(self):
        stacks = [[(9, 3, 7), (8, 1, 1)], [(2, 5, 5)]]
        self.check_example(stacks, told_order(stacks), [])

    def test_turned_alone(self):
        self.check_example([[(9, 3, 7)], [(4, 2, 1)]], [2, 1],
                           [("turned", 9, 4, (7 * 2 - 1 * 3) * (3 * 2), 3 * 2)])

    def test_another_order_of_like_cost_has_no_reason(self):
        self.check_example([[(9, 2, 4)], [(4, 3, 6)]], [2, 1], [])
        self.check_example([[(9, 2, 0)], [(4, 3, 0)]], [2, 1], [])
        self.check_example([[(9, 2, 4), (8, 1, 2)], [(4, 3, 6)]], [1, 2, 1], [])

    def test_parted_alone(self):
        # The two blocks have like shares, so that only the parting of the first one costs.
        stacks = [[(5, 1, 0), (6, 2, 6)], [(7, 3, 6)]]
        self.check_example(stacks, [1, 2, 1], [("parted", 5, 6, (6 * 1 - 3 * 0) * 3, 3)])
        self.check_example(stacks, [2, 1, 1], [])

    def test_turned_comes_ahead_of_parted(self):
        stacks = [[(5, 1, 0), (6, 1, 20)], [(7, 1, 9)]]
        gap = 20 * 1 - 9 * 2
        self.check_example(stacks, [1, 2, 1], [("turned", 5, 7, gap * 1, 2), ("parted", 5, 6, 20 * 1, 2)])
        self.check_example(stacks, [2, 1, 1], [("turned", 5, 7, gap * 2, 2)])

    def test_the_quotient_is_not_shortened(self):
        self.check_example([[(1, 4, 10)], [(2, 4, 2)]], [2, 1], [("turned", 1, 2, 32 * 16, 16)])
        self.check_example([[(1, 2, 0), (2, 2, 8)], [(3, 2, 4)]], [1, 2, 1], [("parted", 1, 2, 16 * 2, 4)])

    def test_a_quotient_that_is_no_whole_number(self):
        stacks = [[(5, 1, 0), (6, 2, 5)], [(7, 2, 3)]]
        self.check_example(stacks, [1, 2, 1], [("turned", 5, 7, 1 * 4, 6), ("parted", 5, 6, 5 * 2, 3)])

    def test_the_rows_come_by_turns_and_not_by_numbers(self):
        stacks = [[(1, 1, 1)], [(2, 1, 2)], [(3, 1, 3)]]
        self.check_example(stacks, [1, 2, 3],
                           [("turned", 3, 2, 1, 1), ("turned", 3, 1, 2, 1), ("turned", 2, 1, 1, 1)])

    def test_parted_rows_come_by_the_told_order_and_not_by_the_stacks(self):
        stacks = [[(1, 1, 0), (2, 1, 2)], [(3, 1, 0), (4, 1, 8), (5, 1, 10)]]
        self.assertEqual(told_order(stacks), [2, 2, 2, 1, 1])
        rows = self.check(stacks, [2, 1, 2, 1, 2])
        self.assertEqual([row[:3] for row in rows],
                         [("turned", 3, 1), ("parted", 3, 4), ("parted", 4, 5), ("parted", 1, 2)])

    def test_the_top_sack_names_a_block_below_another_of_its_stack(self):
        stacks = [[(1, 1, 9), (2, 1, 2), (3, 1, 4)], [(4, 1, 1)]]
        self.check_example(stacks, [2, 1, 1, 1],
                           [("turned", 1, 4, 8, 1), ("turned", 2, 4, (6 - 2) * 2, 2)])

    def test_what_lies_beyond_the_bounds_is_not_refused(self):
        stacks = make_stacks([[(61, 101)], [(75, 130), (1, 0)], [], [(1, 1)], [(2, 1)], [(3, 9)]])
        self.check(stacks, some_order(stacks))

    def test_small_stacks_in_full(self):
        for stacks in all_houses((1, 2), (0, 1, 2), 3, 3):
            for order in whole_orders(stacks):
                self.check(stacks, order)

    def test_small_stacks_of_four_sacks_in_full(self):
        for stacks in all_houses((1, 3), (0, 2), 2, 4):
            for order in whole_orders(stacks):
                self.check(stacks, order)

    def test_small_stacks_at_the_edges_in_full(self):
        for stacks in all_houses((1, 60), (0, 100), 3, 3):
            for order in whole_orders(stacks):
                self.check(stacks, order)

    def test_up_to_six_sacks_over_all_orders(self):
        for stacks in chance_houses(63, 40, range(1, 61), range(0, 101), most_stacks=3, most_sacks=6):
            for order in whole_orders(stacks):
                self.check(stacks, order)

    def test_many_sacks(self):
        for seed, stacks in enumerate(chance_houses(64, 120, range(1, 61), range(0, 101))):
            self.check_kinds(self.check(stacks, some_order(stacks)))
            for order in chance_orders(seed, stacks, 2):
                self.check(stacks, order)
        for seed, stacks in enumerate(chance_houses(65, 120, (1, 2, 4), (0, 1, 2, 4), most_stacks=2)):
            for order in chance_orders(seed, stacks, 2):
                self.check(stacks, order)


if __name__ == "__main__":
    unittest.main()

import unittest
from fractions import Fraction

from rotstacks.blocks import stack_blocks
from rotstacks.orders import block_turns, told_order
from tests.stack_makers import all_houses, chance_houses, make_stacks, some_order, sums, turns_by_words


class OrdersTest(unittest.TestCase):
    def check_kinds(self, stacks):
        turns = block_turns(stacks)
        self.assertIs(type(turns), list)
        for turn in turns:
            self.assertIs(type(turn), tuple)
            self.assertEqual([type(value) for value in turn], [int] * 4)
        order = told_order(stacks)
        self.assertIs(type(order), list)
        self.assertTrue(all(type(at) is int for at in order))

    def check_runs_of_each_stack(self, stacks, turns):
        """The rows of one stack tell its blocks, which are runs of its sacks from the top down."""
        for at, stack in enumerate(stacks, start=1):
            begin = 0
            rows = [turn[1:] for turn in turns if turn[0] == at]
            for many, hours, loss in rows:
                self.assertGreaterEqual(many, 1)
                self.assertEqual(sums(stack[begin:begin + many]), (hours, loss), stacks)
                begin += many
            self.assertEqual(begin, len(stack), stacks)
            self.assertEqual(rows, stack_blocks(stack), stacks)

    def check_falling(self, stacks, turns):
        for ahead, behind in zip(turns, turns[1:]):
            first = Fraction(ahead[3], ahead[2])
            second = Fraction(behind[3], behind[2])
            self.assertTrue(first > second or (first == second and ahead[0] < behind[0]), stacks)

    def check(self, stacks):
        turns = block_turns(stacks)
        self.check_runs_of_each_stack(stacks, turns)
        self.check_falling(stacks, turns)
        self.assertEqual(turns, turns_by_words(stacks), stacks)
        order = told_order(stacks)
        self.assertEqual(order, [at for at, many, hours, loss in turns for place in range(many)], stacks)
        self.assertEqual(sorted(order), some_order(stacks), stacks)

    def check_example(self, columns, turns, order):
        stacks = make_stacks(columns)
        self.assertEqual(block_turns(stacks), turns)
        self.assertEqual(told_order(stacks), order)
        self.check_kinds(stacks)
        self.check(stacks)


class Examples(OrdersTest):
    def test_no_stacks(self):
        self.check_example([], [], [])

    def test_empty_stacks_alone(self):
        self.check_example([[]], [], [])
        self.check_example([[], [], [], [], []], [], [])

    def test_one_sack(self):
        self.check_example([[(3, 7)]], [(1, 1, 3, 7)], [1])

    def test_empty_stacks_among_others_keep_their_numbers(self):
        self.check_example([[], [(2, 1)], [], [(2, 3)], []], [(4, 1, 2, 3), (2, 1, 2, 1)], [4, 2])

    def test_the_greatest_share_comes_first_not_the_greatest_loss_or_the_fewest_hours(self):
        self.check_example([[(10, 50)], [(1, 4)], [(2, 12)]],
                           [(3, 1, 2, 12), (1, 1, 10, 50), (2, 1, 1, 4)], [3, 1, 2])

    def test_of_like_shares_the_lower_number_comes_first(self):
        self.check_example([[(3, 6)], [(2, 4)]], [(1, 1, 3, 6), (2, 1, 2, 4)], [1, 2])
        self.check_example([[(2, 4)], [(3, 6)]], [(1, 1, 2, 4), (2, 1, 3, 6)], [1, 2])
        self.check_example([[(1, 0)], [(60, 0)], [(7, 0)]], [(1, 1, 1, 0), (2, 1, 60, 0), (3, 1, 7, 0)], [1, 2, 3])

    def test_like_shares_behind_others_of_the_same_stacks(self):
        self.check_example([[(1, 1), (2, 0)], [(1, 5), (2, 2)], [(1, 9), (3, 3), (5, 0)]],
                           [(3, 1, 1, 9), (2, 1, 1, 5), (1, 1, 1, 1), (2, 1, 2, 2), (3, 1, 3, 3), (1, 1, 2, 0),
                            (3, 1, 5, 0)],
                           [3, 2, 1, 2, 3, 1, 3])

    def test_like_shares_with_unlike_counts(self):
        self.check_example([[(5, 10)], [(1, 1), (1, 3)], [(2, 4), (1, 2), (1, 2)]],
                           [(1, 1, 5, 10), (2, 2, 2, 4), (3, 3, 4, 8)], [1, 2, 2, 3, 3, 3])

    def test_a_block_is_taken_whole_before_a_sack_that_is_greater_than_its_top(self):
        self.check_example([[(1, 0), (1, 20)], [(1, 9)]], [(1, 2, 2, 20), (2, 1, 1, 9)], [1, 1, 2])

    def test_shares_that_differ_by_a_hair(self):
        self.check_example([[(60, 100)], [(59, 99)]], [(2, 1, 59, 99), (1, 1, 60, 100)], [2, 1])
        self.check_example([[(59, 98)], [(60, 100)]], [(2, 1, 60, 100), (1, 1, 59, 98)], [2, 1])

    def test_the_edges(self):
        self.check_example([[(60, 0)], [(1, 0)], [(60, 100)], [(1, 100)]],
                           [(4, 1, 1, 100), (3, 1, 60, 100), (1, 1, 60, 0), (2, 1, 1, 0)], [4, 3, 1, 2])

    def test_fourteen_sacks(self):
        self.check_example([[(60, 100)] * 14], [(1, 14, 840, 1400)], [1] * 14)
        self.check_example([[(60, 0)] * 3, [(1, 100)] * 3, [(60, 0)] * 3, [(1, 100)] * 3, [(1, 0), (1, 100)]],
                           [(2, 3, 3, 300), (4, 3, 3, 300), (5, 2, 2, 100), (1, 3, 180, 0), (3, 3, 180, 0)],
                           [2, 2, 2, 4, 4, 4, 5, 5, 1, 1, 1, 3, 3, 3])

    def test_what_lies_beyond_the_bounds_is_not_refused(self):
        self.check(make_stacks([[(61, 101)], [(75, 130), (1, 0)], [], [(1, 1)], [(2, 1)], [(3, 9)], [(5, 5)]]))
        self.check(make_stacks([[(hours, 20 - hours)] * 2 for hours in range(1, 11)]))
        great = 10 ** 40
        self.check(make_stacks([[(great + 1, great + 2)], [(great, great + 1)]]))


class ManyStacks(OrdersTest):
    def test_small_stacks_in_full(self):
        for stacks in all_houses((1, 2), (0, 1, 2), 3, 4):
            self.check(stacks)

    def test_small_stacks_at_the_edges_in_full(self):
        for stacks in all_houses((1, 60), (0, 100), 5, 4):
            self.check(stacks)

    def test_many_sacks_over_all_the_bounds(self):
        for stacks in chance_houses(21, 1500, range(1, 61), range(0, 101)):
            self.check(stacks)
            self.check_kinds(stacks)

    def test_many_sacks_with_like_shares(self):
        for stacks in chance_houses(22, 1500, (1, 2, 4), (0, 1, 2, 4)):
            self.check(stacks)

    def test_many_sacks_at_the_edges(self):
        for stacks in chance_houses(23, 1000, (1, 60), (0, 100)):
            self.check(stacks)


if __name__ == "__main__":
    unittest.main()

import copy
import itertools
import unittest
from fractions import Fraction

from rotstacks.blocks import stack_blocks
from tests.stack_makers import all_stacks, chance_stacks, make_stack


def summed(sacks):
    return (len(sacks), sum(sack[1] for sack in sacks), sum(sack[2] for sack in sacks))


def share(sacks):
    many, hours, loss = summed(sacks)
    return Fraction(loss, hours)


def parts_by_counts(stack, counts):
    ends = list(itertools.accumulate(counts))
    return [stack[end - many:end] for many, end in zip(counts, ends)]


def no_beginning_is_greater(part):
    return all(share(part[:many]) <= share(part) for many in range(1, len(part)))


def is_the_parting(parts):
    """The sentences of the document, word by word, of parts that make up a stack."""
    falling = all(share(ahead) > share(behind) for ahead, behind in zip(parts, parts[1:]))
    return falling and all(no_beginning_is_greater(part) for part in parts)


def all_partings(stack):
    """Each way of parting the stack into runs of one or more sacks."""
    if not stack:
        return [[]]
    return [[stack[:many]] + rest for many in range(1, len(stack) + 1) for rest in all_partings(stack[many:])]


class StackBlocksTest(unittest.TestCase):
    def check_kinds(self, blocks):
        self.assertIs(type(blocks), list)
        for block in blocks:
            self.assertIs(type(block), tuple)
            self.assertEqual([type(value) for value in block], [int, int, int])

    def check_sentences(self, stack):
        blocks = stack_blocks(stack)
        self.check_kinds(blocks)
        counts = [block[0] for block in blocks]
        self.assertTrue(all(many >= 1 for many in counts), stack)
        self.assertEqual(sum(counts), len(stack), stack)
        parts = parts_by_counts(stack, counts)
        self.assertEqual(blocks, [summed(part) for part in parts], stack)
        self.assertTrue(is_the_parting(parts), stack)

    def check_only_parting(self, stack):
        fitting = [parts for parts in all_partings(stack) if is_the_parting(parts)]
        self.assertEqual(len(fitting), 1, stack)
        self.assertEqual(stack_blocks(stack), [summed(part) for part in fitting[0]], stack)

    def check_example(self, pairs, wanted):
        stack = make_stack(pairs)
        self.assertEqual(stack_blocks(stack), wanted)
        self.check_sentences(stack)
        self.check_only_parting(stack)


class Examples(StackBlocksTest):
    def test_an_empty_stack_has_no_block(self):
        self.check_example([], [])

    def test_one_sack_is_one_block(self):
        self.check_example([(3, 7)], [(1, 3, 7)])
        self.check_example([(1, 0)], [(1, 1, 0)])
        self.check_example([(60, 100)], [(1, 60, 100)])

    def test_falling_shares_are_blocks_of_their_own(self):
        self.check_example([(1, 9), (2, 10), (3, 6), (4, 0)], [(1, 1, 9), (1, 2, 10), (1, 3, 6), (1, 4, 0)])

    def test_rising_shares_are_one_block(self):
        self.check_example([(4, 0), (3, 6), (2, 10), (1, 9)], [(4, 10, 25)])

    def test_the_stack_is_read_from_its_top_down(self):
        self.check_example([(1, 5), (1, 2), (1, 3)], [(1, 1, 5), (2, 2, 5)])
        self.check_example([(1, 3), (1, 2), (1, 5)], [(3, 3, 10)])

    def test_like_neighbours_lie_in_one_block(self):
        self.check_example([(2, 4), (3, 6)], [(2, 5, 10)])
        self.check_example([(2, 4), (3, 6), (1, 2), (5, 10)], [(4, 11, 22)])
        self.check_example([(1, 9), (2, 4), (3, 6), (4, 1)], [(1, 1, 9), (2, 5, 10), (1, 4, 1)])

    def test_no_loss_at_all_is_one_block(self):
        self.check_example([(1, 0), (60, 0), (7, 0)], [(3, 68, 0)])

    def test_a_share_greater_by_a_hair_joins_and_a_lesser_one_does_not(self):
        self.check_example([(59, 99), (60, 100)], [(1, 59, 99), (1, 60, 100)])
        self.check_example([(60, 100), (59, 99)], [(2, 119, 199)])

    def test_a_block_that_becomes_like_the_one_ahead_joins_it(self):
        self.check_example([(1, 2), (1, 1), (1, 3)], [(3, 3, 6)])

    def test_a_block_takes_in_several_earlier_ones(self):
        self.check_example([(1, 5), (1, 4), (1, 3), (1, 100)], [(4, 4, 112)])

    def test_a_block_takes_in_several_earlier_ones_but_not_the_first(self):
        self.check_example([(1, 50), (1, 4), (1, 3), (1, 2), (1, 20)], [(1, 1, 50), (4, 4, 29)])

    def test_a_block_takes_in_blocks_of_several_sacks(self):
        pairs = [(1, 6), (1, 8), (1, 4), (1, 5), (1, 1), (1, 2), (1, 90), (1, 3)]
        self.check_example(pairs, [(7, 7, 116), (1, 1, 3)])

    def test_fourteen_sacks_at_the_edges(self):
        self.check_example([(60, 100)] * 14, [(14, 840, 1400)])
        self.check_example([(60, 0)] * 14, [(14, 840, 0)])
        self.check_example([(1, 100)] * 7 + [(60, 0)] * 7, [(7, 7, 700), (7, 420, 0)])
        self.check_example([(60, 0)] * 13 + [(1, 100)], [(14, 781, 100)])
        self.check_example([(1, 87 - place) for place in range(14)], [(1, 1, 87 - place) for place in range(14)])

    def test_the_numbers_of_the_sacks_do_not_matter(self):
        self.assertEqual(stack_blocks([(60, 2, 1), (1, 3, 9), (37, 5, 0)]), [(2, 5, 10), (1, 5, 0)])

    def test_what_lies_beyond_the_bounds_is_not_refused(self):
        self.check_sentences(make_stack([(61, 101), (75, 130), (1, 0)]))
        self.check_sentences(make_stack([(hours, 20 - hours) for hours in range(1, 21)]))
        self.assertEqual(stack_blocks([(61, 70, 140), (99, 80, 160)]), [(2, 150, 300)])
        great = 10 ** 40
        self.assertEqual(stack_blocks(make_stack([(great, great + 1), (great + 1, great + 2)])),
                         [(1, great, great + 1), (1, great + 1, great + 2)])


class ManyStacks(StackBlocksTest):
    def test_small_stacks_in_full(self):
        for stack in all_stacks((1, 2, 3), (0, 1, 2, 3), 4):
            self.check_sentences(stack)

    def test_stacks_at_the_edges_in_full(self):
        for stack in all_stacks((1, 60), (0, 100), 6):
            self.check_sentences(stack)

    def test_stacks_of_like_hours_in_full(self):
        for stack in all_stacks((1,), (0, 1, 2), 8):
            self.check_sentences(stack)

    def test_there_is_no_other_parting_of_small_stacks(self):
        for stack in all_stacks((1, 2, 3), (0, 1, 2), 4):
            self.check_only_parting(stack)

    def test_there_is_no_other_parting_of_stacks_at_the_edges(self):
        for stack in all_stacks((1, 60), (0, 100), 5):
            self.check_only_parting(stack)

    def test_high_stacks_over_all_the_bounds(self):
        for stack in chance_stacks(4, 1500, range(1, 61), range(0, 101)):
            self.check_sentences(stack)

    def test_high_stacks_with_many_like_shares(self):
        for stack in chance_stacks(5, 1500, (1, 2, 4), (0, 1, 2, 4)):
            self.check_sentences(stack)

    def test_high_stacks_at_the_edges(self):
        for stack in chance_stacks(6, 1000, (1, 60), (0, 100)):
            self.check_sentences(stack)

    def test_there_is_no_other_parting_of_higher_stacks(self):
        for stack in chance_stacks(7, 150, range(1, 61), range(0, 101), highest=9):
            self.check_only_parting(stack)


class NothingChangedOrKept(StackBlocksTest):
    def test_the_stack_is_as_it_was(self):
        for stack in chance_stacks(8, 300, range(1, 61), range(0, 101)):
            before = copy.deepcopy(stack)
            stack_blocks(stack)
            self.assertEqual(stack, before)

    def test_each_telling_is_a_list_of_its_own(self):
        for stack in ([], make_stack([(3, 7)]), make_stack([(1, 9), (2, 4), (3, 6), (4, 1)])):
            first = stack_blocks(stack)
            second = stack_blocks(stack)
            wanted = list(second)
            self.assertIsNot(first, second)
            self.assertIsNot(first, stack)
            first.append((1, 1, 1))
            first[0] = "changed"
            self.assertEqual(second, wanted)
            self.assertEqual(stack_blocks(stack), wanted)

    def test_what_is_told_stays_when_the_stack_is_changed_later(self):
        stack = make_stack([(1, 9), (2, 4)])
        blocks = stack_blocks(stack)
        stack.clear()
        self.assertEqual(blocks, [(1, 1, 9), (1, 2, 4)])
        self.assertEqual(stack_blocks(stack), [])


if __name__ == "__main__":
    unittest.main()

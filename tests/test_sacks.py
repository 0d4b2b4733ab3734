import unittest

from rotstacks.sacks import (
    loss_in_all, sack_hours, sack_loss, sack_number, sack_share, sacks_in_all, top_sack, with_stack, without_top,
)


class SacksTest(unittest.TestCase):
    def check_parts(self, sack):
        self.assertEqual((sack_number(sack), sack_hours(sack), sack_loss(sack)), sack)
        self.assertEqual(sack_share(sack), sack[1:])

    def test_a_sack_is_number_hours_and_loss(self):
        sack = (7, 12, 35)
        self.assertEqual(sack_number(sack), 7)
        self.assertEqual(sack_hours(sack), 12)
        self.assertEqual(sack_loss(sack), 35)
        self.assertEqual(sack_share(sack), (12, 35))

    def test_the_edges(self):
        for sack in ((1, 1, 0), (60, 60, 100)):
            with self.subTest(sack=sack):
                self.check_parts(sack)

    def test_numbers_beyond_the_bounds_are_not_refused(self):
        self.check_parts((61, 10 ** 40, 10 ** 40 + 1))

    def test_sacks_in_all(self):
        self.assertEqual(sacks_in_all([]), 0)
        self.assertEqual(sacks_in_all([[], []]), 0)
        self.assertEqual(sacks_in_all([[(7, 12, 35)], [], [(1, 1, 0), (60, 60, 100)]]), 3)

    def test_loss_in_all(self):
        self.assertEqual(loss_in_all([]), 0)
        self.assertEqual(loss_in_all([[], []]), 0)
        self.assertEqual(loss_in_all([[(7, 12, 35)], [], [(1, 1, 0), (60, 60, 100)]]), 135)

    def test_one_stack_among_others(self):
        stacks = [[(7, 12, 35)], [], [(1, 1, 0), (60, 60, 100)]]
        self.assertEqual(top_sack(stacks, 1), (7, 12, 35))
        self.assertEqual(top_sack(stacks, 3), (1, 1, 0))
        self.assertEqual(without_top(stacks, 1), [[], [], [(1, 1, 0), (60, 60, 100)]])
        self.assertEqual(without_top(stacks, 3), [[(7, 12, 35)], [], [(60, 60, 100)]])
        self.assertEqual(with_stack(stacks, 2, [(8, 2, 2)]), [[(7, 12, 35)], [(8, 2, 2)], [(1, 1, 0), (60, 60, 100)]])
        self.assertEqual(stacks, [[(7, 12, 35)], [], [(1, 1, 0), (60, 60, 100)]])


if __name__ == "__main__":
    unittest.main()

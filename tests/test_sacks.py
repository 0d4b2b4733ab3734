import unittest

from rotstacks.sacks import sack_hours, sack_loss, sack_number, sack_share, sacks_in_all


class SacksTest(unittest.TestCase):
    def check_parts(self, sack):
        self.assertEqual((sack_number(sack), sack_hours(sack), sack_loss(sack)), sack)
        self.assertEqual(sack_share(sack), sack[1:])

    def test_a_sack_is_number_hours_and_loss(self):
        sack = (7, 12, 35)
        self.assertEqual(sack_number(sack), 7)
        self.assertEqual(sack_hours(sack), 12)
        self.assertEqual(sack_loss(sack), 35)
        self.assertEqual(sack_share(sack), (12, 35))

    def test_the_edges(self):
        for sack in ((1, 1, 0), (60, 60, 100)):
            with self.subTest(sack=sack):
                self.check_parts(sack)

    def test_numbers_beyond_the_bounds_are_not_refused(self):
        self.check_parts((61, 10 ** 40, 10 ** 40 + 1))

    def test_sacks_in_all(self):
        self.assertEqual(sacks_in_all([]), 0)
        self.assertEqual(sacks_in_all([[], []]), 0)
        self.assertEqual(sacks_in_all([[(7, 12, 35)], [], [(1, 1, 0), (60, 60, 100)]]), 3)


if __name__ == "__main__":
    unittest.main()

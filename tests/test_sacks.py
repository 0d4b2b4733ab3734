import unittest

from rotstacks.sacks import sack_hours, sack_loss, sack_number


class SacksTest(unittest.TestCase):
    def test_a_sack_is_number_hours_and_loss(self):
        sack = (7, 12, 35)
        self.assertEqual(sack_number(sack), 7)
        self.assertEqual(sack_hours(sack), 12)
        self.assertEqual(sack_loss(sack), 35)

    def test_the_edges(self):
        for sack in ((1, 1, 0), (60, 60, 100)):
            with self.subTest(sack=sack):
                self.assertEqual((sack_number(sack), sack_hours(sack), sack_loss(sack)), sack)

    def test_numbers_beyond_the_bounds_are_not_refused(self):
        sack = (61, 10 ** 40, 10 ** 40 + 1)
        self.assertEqual((sack_number(sack), sack_hours(sack), sack_loss(sack)), sack)


if __name__ == "__main__":
    unittest.main()

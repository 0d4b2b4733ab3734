import itertools
import math
import unittest
from fractions import Fraction

from rotstacks.blocks import share_sign


def sign_by_fractions(one, other):
    first = Fraction(one[1], one[0])
    second = Fraction(other[1], other[0])
    return (first > second) - (first < second)


def lesser_by_one(hours, loss):
    """A pair whose share is lesser, with products that differ by one; hours and loss have no common divisor."""
    other_hours = pow(loss, -1, hours)
    return (other_hours, (loss * other_hours - 1) // hours)


class ShareSignTest(unittest.TestCase):
    def check(self, one, other, wanted):
        for first, second, sign in ((one, other, wanted), (other, one, -wanted)):
            answer = share_sign(first, second)
            self.assertIs(type(answer), int, (first, second))
            self.assertEqual(answer, sign, (first, second))

    def test_greater_alike_lesser(self):
        self.assertEqual(share_sign((2, 5), (2, 4)), 1)
        self.assertEqual(share_sign((2, 4), (2, 4)), 0)
        self.assertEqual(share_sign((2, 3), (2, 4)), -1)

    def test_more_hours_make_a_lesser_share(self):
        self.assertEqual(share_sign((2, 4), (3, 4)), 1)
        self.assertEqual(share_sign((3, 4), (2, 4)), -1)

    def test_more_loss_and_more_hours_may_be_a_lesser_share(self):
        self.check((1, 3), (10, 20), 1)
        self.check((10, 31), (1, 3), 1)

    def test_alike_with_unlike_hours(self):
        self.check((2, 4), (3, 6), 0)
        self.check((1, 1), (840, 840), 0)
        self.check((3, 5), (840, 1400), 0)
        self.check((6, 4), (9, 6), 0)

    def test_products_that_differ_by_one(self):
        for one, other in (((2, 3), (1, 1)), ((3, 5), (2, 3)), ((3, 5), (839, 1398)), ((838, 839), (839, 840))):
            self.assertEqual(one[1] * other[0] - other[1] * one[0], 1)
            self.check(one, other, 1)

    def test_each_share_beside_one_lesser_by_one_in_the_products(self):
        for hours in (2, 3, 59, 60, 419, 420, 838, 839, 840):
            for loss in range(1, 1401):
                if math.gcd(hours, loss) == 1:
                    lesser = lesser_by_one(hours, loss)
                    self.assertEqual(loss * lesser[0] - lesser[1] * hours, 1)
                    self.check((hours, loss), lesser, 1)

    def test_no_loss(self):
        self.check((5, 1), (5, 0), 1)
        self.check((840, 1), (1, 0), 1)
        self.check((1, 0), (1, 0), 0)
        self.check((1, 0), (840, 0), 0)
        self.check((17, 0), (3, 0), 0)

    def test_the_edges(self):
        edges = list(itertools.product((1, 2, 839, 840), (0, 1, 1399, 1400)))
        for one, other in itertools.product(edges, edges):
            self.check(one, other, sign_by_fractions(one, other))
        self.check((1, 1400), (840, 0), 1)
        self.check((1, 1400), (840, 1400), 1)
        self.check((1, 0), (840, 1400), -1)

    def test_small_pairs_in_full(self):
        pairs = list(itertools.product(range(1, 11), range(0, 13)))
        for one, other in itertools.product(pairs, pairs):
            self.check(one, other, sign_by_fractions(one, other))

    def test_beyond_the_bounds_is_told_exactly_and_not_refused(self):
        self.check((841, 1401), (840, 1400), -1)
        great = 10 ** 40
        self.check((great, great + 1), (great + 1, great + 2), 1)
        self.check((great, great), (3 * great, 3 * great), 0)


if __name__ == "__main__":
    unittest.main()

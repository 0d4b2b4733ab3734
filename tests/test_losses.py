import random
import unittest

from rotstacks.errors import NotGone
from rotstacks.losses import lost_by

GREAT = (10 ** 30, -10 ** 30, 10 ** 5000, -10 ** 5000)


def make_stretches(pairs):
    """Stretches one behind another, of pairs of hours and a rate."""
    stretches = []
    hour = 0
    for hours, rate in pairs:
        stretches.append((hour, hour + hours, rate))
        hour += hours
    return stretches


def rates_by_hours(stretches):
    return [rate for begun, dry, rate in stretches for hour in range(begun, dry)]


class LossesTest(unittest.TestCase):
    def check_refused(self, stretches, hour):
        with self.assertRaises(ValueError) as caught:
            lost_by(stretches, hour)
        self.assertIs(type(caught.exception), NotGone)

    def check_hour(self, stretches, hour):
        rates = rates_by_hours(stretches)
        if hour in range(len(rates) + 1):
            lost = lost_by(stretches, hour)
            self.assertEqual(lost, sum(rates[:hour]), (stretches, hour))
            self.assertIs(type(lost), int)
        else:
            self.check_refused(stretches, hour)

    def check(self, stretches):
        before = list(stretches)
        last = stretches[-1][1] if stretches else 0
        edges = [edge for begun, dry, rate in stretches for edge in (begun, dry)]
        beside = [edge + step for edge in edges for step in (-1, 0, 1)]
        for hour in beside + [-2, -1, 0, 1, last - 1, last, last + 1, last + 2] + list(GREAT):
            self.check_hour(stretches, hour)
        self.assertEqual(stretches, before)

    def check_all_hours(self, stretches):
        for hour in range(-2, len(rates_by_hours(stretches)) + 3):
            self.check_hour(stretches, hour)

    def test_no_stretches(self):
        self.assertEqual(lost_by([], 0), 0)
        for hour in (-1, 1, -2, 2, 60) + GREAT:
            self.check_refused([], hour)

    def test_one_stretch(self):
        stretches = [(0, 3, 5)]
        self.assertEqual([lost_by(stretches, hour) for hour in range(4)], [0, 5, 10, 15])
        for hour in (-1, 4) + GREAT:
            self.check_refused(stretches, hour)

    def test_one_hour(self):
        stretches = [(0, 1, 1400)]
        self.assertEqual([lost_by(stretches, hour) for hour in range(2)], [0, 1400])
        for hour in (-1, 2) + GREAT:
            self.check_refused(stretches, hour)

    def test_two_stretches_and_a_rate_of_nought(self):
        stretches = [(0, 2, 7), (2, 4, 0), (4, 5, 3)]
        self.assertEqual([lost_by(stretches, hour) for hour in range(6)], [0, 7, 14, 14, 14, 17])
        for hour in (-1, 6) + GREAT:
            self.check_refused(stretches, hour)

    def test_the_greatest_within_the_bounds(self):
        stretches = make_stretches([(60, 1400)] * 30)
        self.assertEqual(lost_by(stretches, 1800), 1800 * 1400)
        self.assertEqual(lost_by(stretches, 1799), 1799 * 1400)
        self.check(stretches)
        self.check_refused(stretches, 1801)

    def test_few_stretches_at_all_hours(self):
        for first in ((1, 0), (1, 9), (3, 4)):
            for second in ((1, 0), (1, 7), (2, 1400)):
                for third in ((1, 0), (60, 100)):
                    for many in range(4):
                        self.check_all_hours(make_stretches([first, second, third][:many]))

    def test_up_to_thirty_stretches(self):
        chance = random.Random(111)
        for many in range(31):
            for turn in range(4):
                stretches = make_stretches([(chance.randint(1, 60), chance.randint(0, 1400)) for place in range(many)])
                self.check(stretches)
                self.check(make_stretches([(chance.choice((1, 60)), chance.choice((0, 1400))) for row in stretches]))
                self.check(make_stretches([(1, chance.randint(0, 1400)) for row in stretches]))

    def test_thirty_stretches_at_all_hours(self):
        chance = random.Random(112)
        self.check_all_hours(make_stretches([(chance.randint(1, 12), chance.randint(0, 1400)) for row in range(30)]))

    def test_what_lies_beyond_the_bounds_is_not_refused(self):
        self.check(make_stretches([(61, 1401), (100, 2000)]))
        self.check(make_stretches([(2, 3)] * 45))
        great = 10 ** 40
        self.assertEqual(lost_by([(0, great, great)], great), great * great)


if __name__ == "__main__":
    unittest.main()

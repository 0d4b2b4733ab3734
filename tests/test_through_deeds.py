"""What holds through all deeds, over many houses with mixed deeds."""

import unittest

from rotstacks.drying import dry_on
from rotstacks.house import House
from rotstacks.walk import walked
from tests.stack_makers import all_houses, chance_rows, do_deed, house_of

BOUNDS = ((range(1, 61), range(0, 101)), ((1, 2, 4), (0, 1, 2, 4)), ((1, 60), (0, 100)))


def cost_behind(house, deed):
    """The least cost behind the deed, which is taken back."""
    do_deed(house, deed)
    cost = house.cost()
    house.back()
    return cost


class ThroughDeeds(unittest.TestCase):
    def check_step(self, house, deed):
        cost = house.cost()
        order = house.order()
        lost = house.lost(house.hour())
        answer = do_deed(house, deed)
        if deed[0] == "go":
            self.assertLessEqual(house.cost(), cost, house.deeds())
        elif deed[0] == "put":
            self.assertGreaterEqual(house.cost(), cost, house.deeds())
        elif deed[0] == "tell":
            if deed[3] <= answer:
                self.assertLessEqual(house.cost(), cost, house.deeds())
            if deed[3] >= answer:
                self.assertGreaterEqual(house.cost(), cost, house.deeds())
        else:
            self.assertEqual(house.order(), order[1:], house.deeds())
            self.assertEqual(house.lost(house.hour()) + house.cost(), lost + cost, house.deeds())

    def check_drying_on(self, house):
        order = house.order()
        plan = house.plan()
        cost = house.cost()
        begun = house.hour()
        lost = house.lost(begun)
        rows = dry_on(house.stacks())
        for place in range(min(len(order), 60 - len(house.deeds()))):
            self.assertEqual(house.order(), order[place:], house.deeds())
            self.assertEqual(house.dry()[0], plan[place][0], house.deeds())
            now = house.hour()
            told = (plan[place][0], now - begun, house.lost(now) - lost, house.cost())
            self.assertEqual(told, rows[place], house.deeds())
            self.assertEqual(now - begun, plan[place][3], house.deeds())
        if house.order() == []:
            self.assertEqual(house.lost(house.hour()) - lost, cost, house.deeds())

    def test_each_sentence_behind_each_deed(self):
        for seed, bounds in enumerate(BOUNDS):
            for many, deeds in chance_rows(171 + seed, 100, bounds[0], bounds[1]):
                house = House(many)
                for deed in deeds:
                    self.check_step(house, deed)

    def test_drying_on_from_where_mixed_deeds_led(self):
        for seed, bounds in enumerate(BOUNDS):
            for many, deeds in chance_rows(181 + seed, 100, bounds[0], bounds[1], longest=45):
                self.check_drying_on(walked(many, deeds))

    def test_drying_on_small_stacks_in_full(self):
        for stacks in all_houses((1, 2), (0, 1, 2), 2, 3):
            self.check_drying_on(house_of(stacks))

    def test_drying_a_full_house_to_the_end(self):
        tried = 0
        for many, deeds in chance_rows(191, 400, range(1, 61), range(0, 101), longest=30):
            house = walked(many, deeds)
            if len(house.order()) > 9:
                tried += 1
                self.check_drying_on(house)
                self.assertEqual(house.order(), [])
        self.assertGreater(tried, 20)

    def test_a_loss_told_anew_at_each_place(self):
        for seed, bounds in enumerate(BOUNDS):
            for many, deeds in chance_rows(201 + seed, 40, bounds[0], bounds[1], longest=40):
                house = walked(many, deeds)
                for at, stack in enumerate(house.stacks(), start=1):
                    for place, sack in enumerate(stack, start=1):
                        losses = sorted({0, max(0, sack[2] - 1), sack[2], min(100, sack[2] + 1), 100})
                        costs = [cost_behind(house, ("tell", at, place, loss)) for loss in losses]
                        self.assertEqual(costs, sorted(costs), (house.stacks(), at, place))
                        self.assertEqual(costs[losses.index(sack[2])], house.cost())

    def test_each_sack_that_may_go_or_come(self):
        for seed, bounds in enumerate(BOUNDS):
            for many, deeds in chance_rows(211 + seed, 40, bounds[0], bounds[1], longest=40):
                house = walked(many, deeds)
                for at, stack in enumerate(house.stacks(), start=1):
                    if stack:
                        self.assertLessEqual(cost_behind(house, ("go", at)), house.cost())
                    if len(house.order()) < 14:
                        for hours, loss in ((1, 0), (60, 0), (1, 100), (60, 100), (7, 3)):
                            self.assertGreaterEqual(cost_behind(house, ("put", at, hours, loss)), house.cost())


if __name__ == "__main__":
    unittest.main()

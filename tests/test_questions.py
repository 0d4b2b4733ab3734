"""The questions to a house: against the other modules, and what was lost against a walk hour by hour."""

import itertools
import unittest

from rotstacks.costs import least_cost, order_cost, order_plan, turned_pairs
from rotstacks.errors import EmptyStack, NotGone, ShortOrder, TooManyOrders, UnknownStack
from rotstacks.every import least_of_all
from rotstacks.house import House
from rotstacks.losses import lost_by
from rotstacks.orders import told_order
from rotstacks.reasons import why_least, why_more
from rotstacks.walk import walked
from tests.stack_makers import (
    PlainHouse, answer_of, chance_orders, chance_rows, do_deed, order_by_words, some_order,
)

NOT_HOURS = (-1, -2, 10 ** 30, -10 ** 30, 10 ** 5000, -10 ** 5000)


class QuestionsTest(unittest.TestCase):
    def check_of_stacks(self, house, stacks):
        self.assertEqual(house.stacks(), stacks)
        order = told_order(stacks)
        self.assertEqual(house.order(), order, stacks)
        self.assertEqual(house.order(), order_by_words(stacks), stacks)
        self.assertEqual(house.plan(), order_plan(stacks, order), stacks)
        self.assertEqual(house.cost(), least_cost(stacks), stacks)
        self.assertEqual(house.why(), why_least(stacks), stacks)
        self.assertEqual(house.against(order), (0, [], []), stacks)

    def check_every(self, house, stacks):
        if sum(len(stack) for stack in stacks) > 7:
            self.assertIs(answer_of(house.every), TooManyOrders, stacks)
        else:
            self.assertEqual(house.every(), least_of_all(stacks), stacks)

    def check_against(self, house, stacks, order):
        more = order_cost(stacks, order) - least_cost(stacks)
        wanted = (more, turned_pairs(stacks, order), why_more(stacks, order))
        self.assertEqual(house.against(order), wanted, (stacks, order))

    def check_refused_orders(self, house, stacks):
        whole = some_order(stacks)
        for order in (whole + [0], whole + [-1], [10 ** 30] + whole, whole + [len(stacks) + 1], [-10 ** 5000]):
            self.assertIs(answer_of(house.against, order), UnknownStack, (stacks, order))
        for at in range(1, len(stacks) + 1):
            self.assertIs(answer_of(house.against, whole + [at]), EmptyStack, (stacks, at))
            self.assertIs(answer_of(house.against, [at] * 15 + [0]), UnknownStack, (stacks, at))
        for place in range(len(whole)):
            self.assertIs(answer_of(house.against, whole[:place]), ShortOrder, (stacks, place))

    def check_kinds(self, house):
        for told in (house.stacks(), house.deeds(), house.order(), house.plan(), house.why(), house.stretches()):
            self.assertIs(type(told), list)
        for stack in house.stacks():
            self.assertIs(type(stack), list)
        for number in (house.hour(), house.cost(), house.lost(0), house.lost(house.hour())):
            self.assertIs(type(number), int)
        for row in house.plan() + house.why() + house.stretches():
            self.assertIs(type(row), tuple)
        told = house.against(house.order())
        self.assertEqual((type(told), [type(value) for value in told]), (tuple, [int, list, list]))


class OfTheStacks(QuestionsTest):
    def test_an_example(self):
        house = walked(2, [("put", 1, 1, 20), ("put", 1, 1, 0), ("put", 2, 1, 9)])
        self.assertEqual(house.stacks(), [[(2, 1, 0), (1, 1, 20)], [(3, 1, 9)]])
        self.assertEqual(house.order(), [1, 1, 2])
        self.assertEqual(house.plan(), [(2, 1, 0, 1), (1, 1, 1, 2), (3, 2, 2, 3)])
        self.assertEqual(house.cost(), 67)
        self.assertEqual(house.why(), [(1, 2, 2, 20, [20], 2), (2, 1, 1, 9, [], 0)])
        self.assertEqual(house.against([1, 2, 1]),
                         (11, [(1, 3, 11)], [("turned", 2, 3, 2, 2), ("parted", 2, 1, 20, 2)]))
        self.assertEqual(house.against([1, 1, 2]), (0, [], []))
        self.assertEqual(house.every(), (3, 67, 1))

    def test_the_hours_of_a_plan_and_a_cost_count_from_now(self):
        house = walked(1, [("put", 1, 5, 3), ("put", 1, 2, 9), ("dry",)])
        self.assertEqual((house.hour(), house.plan(), house.cost()), (2, [(1, 1, 0, 5)], 15))

    def test_a_loss_told_anew_counts_from_now_on(self):
        house = walked(2, [("put", 1, 2, 4), ("put", 2, 2, 6)])
        self.assertEqual((house.order(), house.cost()), ([2, 1], 28))
        house.tell(1, 1, 8)
        self.assertEqual((house.order(), house.cost()), ([1, 2], 40))

    def test_seven_sacks_and_eight(self):
        house = walked(2, [("put", 1 + place % 2, 2, place) for place in range(7)])
        self.check_every(house, house.stacks())
        self.assertEqual(house.every()[0], 35)
        for at in (1, 2):
            house.put(at, 1, 1)
            self.assertIs(answer_of(house.every), TooManyOrders)
            house.back()
        house.put(1, 1, 1)
        house.dry()
        self.check_every(house, house.stacks())

    def test_over_many_houses(self):
        for seed, (many, deeds) in enumerate(chance_rows(151, 150, range(1, 61), range(0, 101))):
            house = walked(many, deeds)
            stacks = PlainHouse(many, deeds).stacks
            self.check_of_stacks(house, stacks)
            self.check_every(house, stacks)
            for order in chance_orders(seed, stacks, 3):
                self.check_against(house, stacks, order)
            self.check_refused_orders(house, stacks)
            self.check_kinds(house)

    def test_behind_every_deed(self):
        for seed, (many, deeds) in enumerate(chance_rows(152, 40, (1, 2, 3), (0, 1, 2, 100))):
            house = House(many)
            plain = PlainHouse(many)
            for deed in deeds:
                do_deed(house, deed)
                plain.do(deed)
                self.check_of_stacks(house, plain.stacks)
                for order in chance_orders(seed, plain.stacks, 1):
                    self.check_against(house, plain.stacks, order)

    def test_every_behind_every_deed(self):
        for many, deeds in chance_rows(153, 12, (1, 2, 3), (0, 1, 2, 100), longest=40):
            house = House(many)
            for deed in deeds:
                do_deed(house, deed)
                self.check_every(house, house.stacks())


class OfTheHours(QuestionsTest):
    def check_lost(self, house, plain):
        self.assertEqual(house.hour(), len(plain.rates))
        self.assertEqual(house.stretches(), plain.stretches, plain.kept)
        told = [house.lost(hour) for hour in range(house.hour() + 1)]
        self.assertEqual(told, list(itertools.accumulate(plain.rates, initial=0)), plain.kept)
        for hour in NOT_HOURS + (house.hour() + 1, house.hour() + 2):
            self.assertIs(answer_of(house.lost, hour), NotGone, plain.kept)

    def check_row(self, many, deeds):
        house = walked(many, deeds)
        self.check_lost(house, PlainHouse(many, deeds))
        stretches = house.stretches()
        for begun, dry, rate in stretches:
            for hour in (begun, begun + 1, dry - 1, dry):
                self.assertEqual(lost_by(stretches, hour), house.lost(hour))
        for hour in NOT_HOURS + (house.hour() + 1,):
            self.assertIs(answer_of(lost_by, stretches, hour), NotGone)

    def test_no_hour_is_gone(self):
        for deeds in ([], [("put", 1, 3, 9)], [("put", 1, 3, 9), ("tell", 1, 1, 4)], [("put", 1, 3, 9), ("go", 1)]):
            house = walked(1, deeds)
            self.assertEqual((house.hour(), house.stretches(), house.lost(0)), (0, [], 0))
            for hour in NOT_HOURS + (1,):
                self.assertIs(answer_of(house.lost, hour), NotGone)

    def test_a_loss_told_anew_changes_no_hour_that_is_gone(self):
        house = walked(2, [("put", 1, 2, 10), ("put", 2, 3, 6), ("put", 2, 1, 1), ("dry",)])
        self.assertEqual(house.stretches(), [(0, 2, 17)])
        house.tell(2, 2, 100)
        house.tell(2, 1, 0)
        self.assertEqual((house.stretches(), house.lost(2)), ([(0, 2, 17)], 34))
        house.dry()
        self.assertEqual(house.stretches(), [(0, 2, 17), (2, 3, 100)])
        house.tell(2, 1, 50)
        house.dry()
        self.assertEqual(house.stretches(), [(0, 2, 17), (2, 3, 100), (3, 6, 50)])
        self.assertEqual([house.lost(hour) for hour in range(7)], [0, 17, 34, 134, 184, 234, 284])

    def test_a_sack_that_goes_or_comes_changes_no_hour_that_is_gone(self):
        house = walked(2, [("put", 1, 2, 10), ("put", 2, 3, 6), ("dry",), ("go", 2), ("put", 1, 4, 3), ("dry",)])
        self.assertEqual(house.stretches(), [(0, 2, 16), (2, 6, 3)])
        self.assertEqual([house.lost(hour) for hour in range(7)], [0, 16, 32, 35, 38, 41, 44])

    def test_a_rate_of_nought(self):
        house = walked(1, [("put", 1, 4, 0), ("dry",)])
        self.assertEqual((house.stretches(), [house.lost(hour) for hour in range(5)]), ([(0, 4, 0)], [0] * 5))

    def test_over_all_the_bounds(self):
        for many, deeds in chance_rows(154, 150, range(1, 61), range(0, 101)):
            self.check_row(many, deeds)

    def test_short_hours(self):
        for many, deeds in chance_rows(155, 150, (1, 2, 3), (0, 1, 2, 100)):
            self.check_row(many, deeds)

    def test_behind_every_deed(self):
        for many, deeds in chance_rows(156, 60, (1, 2, 3), (0, 1, 2, 100)):
            house = House(many)
            plain = PlainHouse(many)
            dried = 0
            for deed in deeds:
                answer = do_deed(house, deed)
                plain.do(deed)
                dried += answer[1] if deed[0] == "dry" else 0
                self.assertEqual(house.hour(), dried)
                self.check_lost(house, plain)

    def test_losses_told_anew_between_dryings(self):
        tried = 0
        for many, deeds in chance_rows(157, 400, (1, 2, 3), (0, 1, 2, 100)):
            words = [deed[0] for deed in deeds]
            if words.count("dry") > 3 and words.count("tell") > 10:
                tried += 1
                self.check_row(many, deeds)
        self.assertGreater(tried, 20)

    def test_thirty_stretches(self):
        deeds = [("put", 1, 60, 100), ("dry",)] * 30
        self.check_row(1, deeds)
        self.assertEqual(len(walked(1, deeds).stretches()), 30)


if __name__ == "__main__":
    unittest.main()

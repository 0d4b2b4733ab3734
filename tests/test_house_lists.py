"""Lists that a house told or was handed are changed from outside, and houses stand side by side."""

import random
import unittest

from rotstacks.house import House
from rotstacks.walk import walked
from tests.stack_makers import (
    MIXTURES, PlainHouse, answer_of, ask_all, chance_deed, chance_orders, chance_rows, do_deed, lists_within,
    some_order,
)

QUESTIONS = ("stacks", "deeds", "hour", "order", "plan", "cost", "why", "every", "stretches")


def spoil(value):
    for found in lists_within(value):
        found.clear()
        found.append("changed")


def lists_told(house):
    """Every list that the house tells, in answers that are all held at the same time."""
    answers = [answer_of(getattr(house, question)) for question in QUESTIONS]
    answers.append(house.against(some_order(house.stacks())))
    return lists_within(answers)


class ListsTold(unittest.TestCase):
    def check_spoiled(self, house):
        before = ask_all(house)
        for question in QUESTIONS:
            spoil(answer_of(getattr(house, question)))
            self.assertEqual(ask_all(house), before, question)
        for order in chance_orders(221, house.stacks(), 2):
            spoil(house.against(order))
            self.assertEqual(ask_all(house), before, order)

    def check_made_anew(self, house):
        lists = lists_told(house) + lists_told(house)
        self.assertEqual(len({id(found) for found in lists}), len(lists), house.deeds())

    def test_a_changed_answer_changes_nothing(self):
        for many, deeds in chance_rows(222, 60, (1, 2, 3), (0, 1, 2, 100)):
            self.check_spoiled(walked(many, deeds))

    def test_every_list_is_made_anew(self):
        for many, deeds in chance_rows(223, 100, (1, 2, 3), (0, 1, 2, 100)):
            self.check_made_anew(walked(many, deeds))

    def test_a_changed_answer_changes_no_further_deed(self):
        for many, deeds in chance_rows(224, 60, (1, 2, 3), (0, 1, 2, 100), longest=40):
            house = House(many)
            plain = PlainHouse(many)
            for deed in deeds:
                for question in ("stacks", "deeds", "order", "plan", "why", "stretches"):
                    spoil(getattr(house, question)())
                self.assertEqual(do_deed(house, deed), plain.do(deed))
                self.assertEqual((house.stacks(), house.deeds()), (plain.stacks, plain.kept))
            for deed in deeds[::-1]:
                spoil(house.stacks())
                spoil(house.deeds())
                spoil(house.stretches())
                self.assertEqual(house.back(), deed)
            self.assertEqual(ask_all(house), ask_all(House(many)))

    def test_what_was_told_stays_when_the_house_goes_on(self):
        for many, deeds in chance_rows(225, 40, (1, 2, 3), (0, 1, 2, 100), longest=40):
            house = House(many)
            told = []
            wanted = []
            for deed in deeds:
                told.append((house.stacks(), house.deeds(), house.stretches()))
                plain = PlainHouse(many, house.deeds())
                wanted.append((plain.stacks, plain.kept, plain.stretches))
                do_deed(house, deed)
            while house.deeds():
                house.back()
            self.assertEqual(told, wanted)


class ListsHandedIn(unittest.TestCase):
    def test_an_order_is_not_changed_and_not_kept(self):
        for seed, (many, deeds) in enumerate(chance_rows(226, 80, (1, 2, 3), (0, 1, 2, 100))):
            house = walked(many, deeds)
            before = ask_all(house)
            for order in chance_orders(seed, house.stacks(), 2):
                for handed in (list(order), order + [0], order + [1], order[1:]):
                    kept = list(handed)
                    told = answer_of(house.against, handed)
                    self.assertEqual(handed, kept)
                    shared = [found for found in lists_within(told) if found is handed]
                    self.assertEqual(shared, [])
                    spoil(handed)
                    self.assertEqual(answer_of(house.against, kept), told)
                    self.assertEqual(ask_all(house), before)

    def test_deeds_are_not_kept(self):
        for many, deeds in chance_rows(227, 80, (1, 2, 3), (0, 1, 2, 100)):
            handed = list(deeds)
            house = walked(many, handed)
            before = ask_all(house)
            spoil(handed)
            self.assertEqual(ask_all(house), before)
            self.assertEqual(ask_all(walked(many, house.deeds())), before)


class SideBySide(unittest.TestCase):
    def check_turns(self, chance, houses, plains):
        for turn in range(120):
            place = chance.randrange(len(houses))
            plain = plains[place]
            if chance.random() < 0.2 and plain.kept:
                self.assertEqual(houses[place].back(), plain.kept[-1])
                plains[place] = PlainHouse(len(plain.stacks), plain.kept[:-1])
            else:
                deed = chance_deed(chance, plain, (1, 2, 3), (0, 1, 2, 100), MIXTURES[0])
                if deed is not None:
                    self.assertEqual(do_deed(houses[place], deed), plain.do(deed))
            for house, other in zip(houses, plains):
                self.assertEqual((house.stacks(), house.deeds(), house.stretches()),
                                 (other.stacks, other.kept, other.stretches))

    def test_houses_share_nothing(self):
        chance = random.Random(228)
        for many in range(1, 6):
            for count in (2, 3):
                houses = [House(many) for place in range(count)]
                self.check_turns(chance, houses, [PlainHouse(many) for place in range(count)])

    def test_houses_walked_from_the_same_deeds_share_nothing(self):
        chance = random.Random(229)
        for many, deeds in chance_rows(230, 20, (1, 2, 3), (0, 1, 2, 100), longest=40):
            houses = [walked(many, deeds), walked(many, deeds), House(many)]
            self.check_turns(chance, houses, [PlainHouse(many, deeds), PlainHouse(many, deeds), PlainHouse(many)])
            lists = lists_told(houses[0]) + lists_told(houses[1]) + lists_told(houses[2])
            self.assertEqual(len({id(found) for found in lists}), len(lists))


if __name__ == "__main__":
    unittest.main()

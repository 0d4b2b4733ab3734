import random
import unittest

from rotstacks.errors import BadCount, DeedsFull, EmptyStack, HouseFull, NothingWaits, UnknownStack
from rotstacks.house import House
from rotstacks.walk import walked
from tests.stack_makers import (
    MIXTURES, PlainHouse, answer_of, ask_all, chance_deed, chance_rows, do_deed, lists_within,
)

GOOD = ("put", 1, 3, 4)
BAD = (
    ("put", 9, 1, 1), ("put", 1, 0, 1), ("put", 1, 1, 101), ("tell", 0, 1, 1), ("tell", 1, 0, 1), ("tell", 1, 1, -1),
    ("go", 9), ("go", -1), ("dry",), ("go", 1), ("tell", 2, 1, 1), ("put", 10 ** 30, 1, 1), ("put", 1, -10 ** 5000, 1),
)


def done_one_by_one(many, deeds):
    house = House(many)
    for deed in deeds:
        do_deed(house, deed)
    return house


class WalkTest(unittest.TestCase):
    def check_alike(self, house, other, place):
        self.assertEqual(ask_all(house), ask_all(other), place)

    def check_further(self, chance, house, other):
        """Both answer further deeds alike, backs and refused ones among them."""
        plain = PlainHouse(len(house.stacks()), house.deeds())
        for turn in range(12):
            deed = chance_deed(chance, plain, (1, 2, 3), (0, 1, 2, 100), chance.choice(MIXTURES))
            deed = chance.choice((deed, deed, ("back",)) + BAD[:3]) or ("dry",)
            first = answer_of(do_deed, house, deed)
            self.assertEqual(first, answer_of(do_deed, other, deed), (plain.kept, deed))
            plain = PlainHouse(len(house.stacks()), house.deeds())
        self.check_alike(house, other, plain.kept)


class Walking(WalkTest):
    def test_of_no_deeds_it_is_a_new_house(self):
        for many in range(6):
            house = walked(many, [])
            self.assertIs(type(house), House)
            self.check_alike(house, House(many), many)

    def test_the_deeds_are_done_one_behind_another(self):
        house = walked(2, [("put", 1, 3, 4), ("put", 2, 2, 5), ("tell", 1, 1, 9), ("dry",), ("go", 2)])
        self.assertEqual(house.deeds(), [("put", 1, 3, 4), ("put", 2, 2, 5), ("tell", 1, 1, 9), ("dry",), ("go", 2)])
        self.assertEqual((house.stacks(), house.hour(), house.stretches()), ([[], []], 3, [(0, 3, 14)]))
        self.assertEqual(house.put(1, 1, 1), 3)

    def test_walking_what_a_house_tells_gives_a_like_house(self):
        chance = random.Random(161)
        for bounds in (((1, 2, 3), (0, 1, 2, 100)), (range(1, 61), range(0, 101))):
            for many, deeds in chance_rows(162, 60, bounds[0], bounds[1]):
                house = done_one_by_one(many, deeds)
                other = walked(many, house.deeds())
                self.assertIs(type(other), House)
                self.check_alike(house, other, (many, deeds))
                self.check_further(chance, house, other)

    def test_behind_backs_as_well(self):
        chance = random.Random(163)
        for many, deeds in chance_rows(164, 60, (1, 2, 3), (0, 1, 2, 100)):
            house = done_one_by_one(many, deeds)
            for turn in range(min(len(deeds), chance.randint(1, 8))):
                house.back()
            other = walked(many, house.deeds())
            self.check_alike(house, other, (many, deeds))
            self.check_further(chance, house, other)

    def test_a_beginning_of_the_deeds_gives_the_house_as_it_stood_then(self):
        for many, deeds in chance_rows(165, 30, (1, 2, 3), (0, 1, 2, 100), longest=40):
            house = House(many)
            stood = [ask_all(house)]
            for deed in deeds:
                do_deed(house, deed)
                stood.append(ask_all(house))
            told = house.deeds()
            for place, wanted in enumerate(stood):
                self.assertEqual(ask_all(walked(many, told[:place])), wanted, (many, deeds[:place]))

    def test_the_two_share_nothing(self):
        for many, deeds in chance_rows(166, 60, (1, 2, 3), (0, 1, 2, 100)):
            house = done_one_by_one(many, deeds)
            other = walked(many, house.deeds())
            before = ask_all(house)
            while other.deeds():
                other.back()
            self.assertEqual(ask_all(house), before)
            other = walked(many, house.deeds())
            for deed in (("put", 1, 1, 1), ("tell", 1, 1, 50), ("dry",), ("go", 1)):
                answer_of(do_deed, other, deed)
            self.assertEqual(ask_all(house), before)

    def test_the_deeds_handed_in_are_not_changed_and_not_kept(self):
        for many, deeds in chance_rows(167, 60, (1, 2, 3), (0, 1, 2, 100)):
            handed = list(deeds)
            house = walked(many, handed)
            self.assertEqual(handed, deeds)
            before = ask_all(house)
            handed.clear()
            handed.append(("dry",))
            self.assertEqual(ask_all(house), before)
            handed[:] = deeds
            for found in lists_within(house.deeds()):
                found.clear()
            answer_of(house.put, 1, 1, 1)
            answer_of(house.back)
            answer_of(house.back)
            self.assertEqual(handed, deeds)


class Refused(WalkTest):
    def check_refused(self, many, deeds, wanted):
        before = list(deeds)
        with self.assertRaises(ValueError) as caught:
            walked(many, deeds)
        self.assertIs(type(caught.exception), wanted, (many, deeds))
        self.assertEqual(deeds, before)

    def test_bad_count(self):
        for many in (-1, 6, 7, 10 ** 30, -10 ** 30, 10 ** 5000):
            for deeds in ([], [GOOD], [("go", 9)], [("put", 1, 0, 0), ("dry",)]):
                self.check_refused(many, deeds, BadCount)

    def test_the_first_deed_that_is_refused(self):
        for bad in BAD:
            wanted = PlainHouse(2).due(bad)[0]
            self.check_refused(2, [bad], wanted)
            self.check_refused(2, [bad, GOOD], wanted)
            for other in BAD:
                self.check_refused(2, [bad, other], wanted)

    def test_behind_deeds_that_are_not_refused(self):
        self.check_refused(1, [GOOD, ("dry",), ("go", 1), ("put", 1, 0, 0)], EmptyStack)
        self.check_refused(1, [GOOD, ("dry",), ("put", 2, 0, 0), ("go", 1)], UnknownStack)
        self.check_refused(1, [GOOD, ("go", 1), ("dry",), GOOD], NothingWaits)
        self.check_refused(1, [GOOD] * 15, HouseFull)
        self.check_refused(1, [GOOD] * 15 + [("go", 2)], HouseFull)

    def test_sixty_deeds_and_one_more(self):
        for more in (GOOD, ("tell", 1, 1, 1), ("go", 1), ("dry",)):
            deeds = [GOOD] + [("tell", 1, 1, 9)] * 59
            self.assertEqual(walked(1, deeds).deeds(), deeds)
            self.check_refused(1, deeds + [more], DeedsFull)
            self.check_refused(1, deeds + [more] * 1000, DeedsFull)

    def test_a_refused_deed_at_every_place_of_a_row(self):
        chance = random.Random(168)
        for many, deeds in chance_rows(169, 80, (1, 2, 3), (0, 1, 2, 100)):
            place = chance.randint(0, len(deeds))
            for bad in BAD:
                due = PlainHouse(many, deeds[:place]).due(bad)
                if due:
                    self.check_refused(many, deeds[:place] + [bad] + deeds[place:], due[0])


if __name__ == "__main__":
    unittest.main()

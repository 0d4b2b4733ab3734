"""Taking deeds back: behind it the house is as it was just ahead of the deed, in all that it answers and does."""

import random
import unittest

from rotstacks.errors import DeedsFull, NothingDone
from rotstacks.house import House
from rotstacks.walk import walked
from tests.stack_makers import MIXTURES, PlainHouse, answer_of, ask_all, chance_deed, chance_rows, do_deed

FURTHER = (("put", 1, 3, 50), ("dry",), ("tell", 1, 1, 7), ("put", 2, 2, 9), ("go", 1), ("dry",), ("put", 1, 60, 100),
           ("tell", 2, 1, 101), ("go", 3), ("put", 1, 0, 0), ("dry",), ("dry",))


def answers_to(house, deeds):
    return [answer_of(do_deed, house, deed) for deed in deeds]


class BackTest(unittest.TestCase):
    def check_alike(self, house, other, place):
        self.assertEqual(ask_all(house), ask_all(other), place)

    def check_further(self, house, other, place):
        """Both answer further deeds alike; behind this both have changed alike."""
        self.assertEqual(answers_to(house, FURTHER), answers_to(other, FURTHER), place)
        self.check_alike(house, other, place)

    def check_nothing_done(self, house):
        with self.assertRaises(ValueError) as caught:
            house.back()
        self.assertIs(type(caught.exception), NothingDone)


class BehindEachKind(BackTest):
    def setUp(self):
        self.ground = [("put", 1, 3, 4), ("put", 2, 2, 5), ("put", 1, 1, 0), ("dry",), ("tell", 1, 2, 8)]

    def check_taken_back(self, deed):
        house = walked(2, self.ground)
        before = ask_all(house)
        do_deed(house, deed)
        self.assertNotEqual(ask_all(house), before)
        taken = house.back()
        self.assertEqual(taken, deed)
        self.assertIs(type(taken), tuple)
        self.assertEqual(house.deeds(), self.ground)
        self.assertEqual(ask_all(house), before)
        self.check_further(house, walked(2, self.ground), deed)

    def test_put(self):
        self.check_taken_back(("put", 2, 7, 9))

    def test_tell(self):
        self.check_taken_back(("tell", 1, 1, 99))
        self.check_taken_back(("tell", 1, 2, 8))

    def test_go(self):
        self.check_taken_back(("go", 1))

    def test_dry(self):
        self.check_taken_back(("dry",))

    def test_the_sack_lies_where_it_lay_with_the_loss_that_it_had(self):
        house = walked(1, [("put", 1, 3, 4), ("tell", 1, 1, 9)])
        before = house.stacks()
        for deed in (("dry",), ("go", 1), ("tell", 1, 1, 0)):
            do_deed(house, deed)
            house.back()
            self.assertEqual(house.stacks(), before)
        self.assertEqual(house.back(), ("tell", 1, 1, 9))
        self.assertEqual(house.stacks(), [[(1, 3, 4)]])

    def test_what_was_lost_is_taken_back_too(self):
        house = walked(1, [("put", 1, 3, 4), ("dry",), ("put", 1, 2, 7), ("dry",)])
        self.assertEqual((house.hour(), house.lost(5)), (5, 26))
        house.back()
        self.assertEqual((house.hour(), house.lost(3), house.stretches()), (3, 12, [(0, 3, 4)]))
        house.tell(1, 1, 1)
        house.dry()
        self.assertEqual((house.hour(), house.lost(5), house.stretches()), (5, 14, [(0, 3, 4), (3, 5, 1)]))

    def test_back_is_not_kept_and_takes_back_no_back(self):
        house = walked(1, [("put", 1, 3, 4), ("put", 1, 2, 7)])
        self.assertEqual(house.back(), ("put", 1, 2, 7))
        self.assertEqual(house.back(), ("put", 1, 3, 4))
        self.assertEqual(house.deeds(), [])
        self.check_nothing_done(house)

    def test_a_refused_deed_is_not_taken_back(self):
        house = walked(1, [("put", 1, 3, 4), ("dry",)])
        answers_to(house, (("go", 1), ("go", 2), ("dry",), ("put", 1, 0, 0), ("tell", 1, 1, 1)))
        self.assertEqual(house.back(), ("dry",))


class AgainAndAgain(BackTest):
    def check_all_the_way_back(self, many, deeds):
        house = House(many)
        stood = [ask_all(house)]
        for deed in deeds:
            do_deed(house, deed)
            stood.append(ask_all(house))
        for place in range(len(deeds), 0, -1):
            self.assertEqual(ask_all(house), stood[place], (many, deeds[:place]))
            self.assertEqual(house.back(), deeds[place - 1])
        self.assertEqual(ask_all(house), stood[0])
        for turn in range(3):
            self.check_nothing_done(house)
            self.assertEqual(ask_all(house), stood[0])
        self.check_further(house, House(many), (many, deeds))

    def test_until_no_deed_is_kept(self):
        for many, deeds in chance_rows(141, 40, (1, 2, 3), (0, 1, 2, 100), longest=40):
            self.check_all_the_way_back(many, deeds)
        for many, deeds in chance_rows(142, 12, range(1, 21), range(0, 101), longest=40):
            self.check_all_the_way_back(many, deeds)

    def test_where_sixty_deeds_are_kept(self):
        ends = (("put", 1, 1, 1), ("put", 2, 1, 1), ("tell", 1, 1, 1), ("go", 1), ("dry",))
        for end in ends:
            ground = [("put", 1, 3, 4)] + [("tell", 1, 1, loss) for loss in range(58)]
            house = walked(2, ground + [end])
            self.assertEqual(len(house.deeds()), 60)
            for deed in ends[:2]:
                self.assertIs(answer_of(do_deed, house, deed), DeedsFull)
            self.assertEqual(house.back(), end)
            self.check_alike(house, walked(2, ground), end)
            for deed in ends:
                other = walked(2, ground)
                self.assertEqual(do_deed(house, deed), do_deed(other, deed))
                self.check_alike(house, other, (end, deed))
                self.assertEqual(house.back(), deed)
        for turn in range(59):
            house.back()
        self.check_nothing_done(house)

    def test_at_sixty_deeds_of_mixed_kinds(self):
        tried = 0
        for many, deeds in chance_rows(143, 100, (1, 2, 3), (0, 1, 2, 100)):
            if len(deeds) == 60:
                tried += 1
                house = walked(many, deeds)
                self.assertEqual(house.back(), deeds[-1])
                self.check_further(house, walked(many, deeds[:-1]), (many, deeds))
        self.assertGreater(tried, 20)


class FurtherDeeds(BackTest):
    def test_behind_a_back_in_the_middle(self):
        for many, deeds in chance_rows(144, 60, (1, 2, 3), (0, 1, 2, 100)):
            for backs in (1, 2, 5):
                if backs <= len(deeds):
                    house = walked(many, deeds)
                    taken = [house.back() for turn in range(backs)]
                    self.assertEqual(taken, deeds[::-1][:backs])
                    other = walked(many, deeds[:-backs])
                    self.check_alike(house, other, (many, deeds))
                    self.check_further(house, other, (many, deeds))

    def check_wandering(self, chance, many):
        house = House(many)
        plain = PlainHouse(many)
        for turn in range(150):
            if chance.random() < 0.35:
                wanted = plain.kept[-1] if plain.kept else NothingDone
                self.assertEqual(answer_of(house.back), wanted)
                plain = PlainHouse(many, plain.kept[:-1])
            else:
                deed = chance_deed(chance, plain, (1, 2, 3), (0, 1, 2, 100), chance.choice(MIXTURES))
                if deed is not None:
                    self.assertEqual(do_deed(house, deed), plain.do(deed), plain.kept)
            self.assertEqual((house.stacks(), house.deeds()), (plain.stacks, plain.kept))
            self.assertEqual((house.hour(), house.stretches()), (len(plain.rates), plain.stretches))
        self.check_alike(house, walked(many, plain.kept), (many, plain.kept))

    def test_deeds_and_backs_mixed(self):
        chance = random.Random(145)
        for turn in range(25):
            self.check_wandering(chance, chance.randint(0, 5))


class Questions(BackTest):
    def test_a_question_changes_nothing(self):
        for many, deeds in chance_rows(146, 60, (1, 2, 3), (0, 1, 2, 100), longest=30):
            asked = House(many)
            quiet = House(many)
            for deed in deeds:
                first = ask_all(asked)
                self.assertEqual(ask_all(asked), first)
                self.assertEqual(do_deed(asked, deed), do_deed(quiet, deed))
            self.check_alike(asked, quiet, (many, deeds))


if __name__ == "__main__":
    unittest.main()

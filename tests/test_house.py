"""New houses, and what each deed tells and does."""

import unittest

from rotstacks.errors import BadCount, EmptyStack, NothingDone, NothingWaits, NotGone, UnknownStack
from rotstacks.house import House
from tests.stack_makers import PlainHouse, answer_of, chance_rows, do_deed

KINDS = {"put": int, "tell": int, "go": tuple, "dry": tuple}


class NewHouse(unittest.TestCase):
    def test_each_number_of_stacks(self):
        for many in range(6):
            house = House(many)
            self.assertEqual(house.stacks(), [[]] * many)
            self.assertEqual(house.deeds(), [])
            self.assertEqual(house.hour(), 0)
            self.assertEqual(house.order(), [])
            self.assertEqual(house.plan(), [])
            self.assertEqual(house.cost(), 0)
            self.assertEqual(house.why(), [])
            self.assertEqual(house.against([]), (0, [], []))
            self.assertEqual(house.every(), (1, 0, 1))
            self.assertEqual(house.stretches(), [])
            self.assertEqual(house.lost(0), 0)

    def test_what_a_new_house_refuses(self):
        for many in range(6):
            house = House(many)
            for hour in (-1, 1, 10 ** 30, -10 ** 30):
                self.assertIs(answer_of(house.lost, hour), NotGone)
            for at in (0, -1, many + 1, 10 ** 30, -10 ** 30):
                self.assertIs(answer_of(house.against, [at]), UnknownStack)
                self.assertIs(answer_of(house.go, at), UnknownStack)
                self.assertIs(answer_of(house.tell, at, 1, 1), UnknownStack)
                self.assertIs(answer_of(house.put, at, 1, 1), UnknownStack)
            for at in range(1, many + 1):
                self.assertIs(answer_of(house.against, [at]), EmptyStack)
                self.assertIs(answer_of(house.go, at), EmptyStack)
                self.assertIs(answer_of(house.tell, at, 1, 1), EmptyStack)
            self.assertIs(answer_of(house.dry), NothingWaits)
            self.assertIs(answer_of(house.back), NothingDone)
            self.assertEqual(house.stacks(), [[]] * many)
            self.assertEqual(house.deeds(), [])

    def test_each_stack_is_a_list_of_its_own(self):
        for many in range(6):
            for at in range(1, many + 1):
                house = House(many)
                house.put(at, 3, 7)
                self.assertEqual(house.stacks(), [[(1, 3, 7)] if place == at else [] for place in range(1, many + 1)])

    def test_any_other_number_is_refused(self):
        for many in (-1, 6, -2, 7, 60, 10 ** 30, -10 ** 30, 10 ** 5000, -10 ** 5000):
            with self.assertRaises(ValueError) as caught:
                House(many)
            self.assertIs(type(caught.exception), BadCount)


class EachDeed(unittest.TestCase):
    def test_put(self):
        house = House(2)
        self.assertEqual(house.put(2, 5, 10), 1)
        self.assertEqual(house.put(2, 1, 0), 2)
        self.assertEqual(house.put(1, 60, 100), 3)
        self.assertEqual(house.stacks(), [[(3, 60, 100)], [(2, 1, 0), (1, 5, 10)]])
        self.assertEqual(house.deeds(), [("put", 2, 5, 10), ("put", 2, 1, 0), ("put", 1, 60, 100)])
        self.assertEqual((house.hour(), house.stretches()), (0, []))

    def test_tell(self):
        house = House(1)
        for loss in (10, 20, 30):
            house.put(1, 5, loss)
        self.assertEqual(house.tell(1, 1, 100), 30)
        self.assertEqual(house.tell(1, 3, 0), 10)
        self.assertEqual(house.tell(1, 2, 20), 20)
        self.assertEqual(house.tell(1, 1, 7), 100)
        self.assertEqual(house.stacks(), [[(3, 5, 7), (2, 5, 20), (1, 5, 0)]])
        self.assertEqual(house.deeds()[3:], [("tell", 1, 1, 100), ("tell", 1, 3, 0), ("tell", 1, 2, 20),
                                             ("tell", 1, 1, 7)])
        self.assertEqual((house.hour(), house.stretches()), (0, []))

    def test_go(self):
        house = House(2)
        house.put(1, 5, 10)
        house.put(1, 6, 20)
        house.put(2, 7, 30)
        self.assertEqual(house.go(1), (2, 6, 20))
        self.assertEqual(house.stacks(), [[(1, 5, 10)], [(3, 7, 30)]])
        self.assertEqual(house.go(2), (3, 7, 30))
        self.assertEqual(house.go(1), (1, 5, 10))
        self.assertEqual(house.stacks(), [[], []])
        self.assertEqual(house.deeds()[3:], [("go", 1), ("go", 2), ("go", 1)])
        self.assertEqual((house.hour(), house.stretches()), (0, []))

    def test_dry(self):
        house = House(2)
        house.put(1, 5, 10)
        house.put(2, 2, 7)
        house.put(2, 3, 0)
        self.assertEqual(house.dry(), (1, 5, 10))
        self.assertEqual((house.hour(), house.stretches()), (5, [(0, 5, 17)]))
        self.assertEqual(house.dry(), (3, 3, 0))
        self.assertEqual((house.hour(), house.stretches()), (8, [(0, 5, 17), (5, 8, 7)]))
        self.assertEqual(house.dry(), (2, 2, 7))
        self.assertEqual((house.hour(), house.stretches()), (10, [(0, 5, 17), (5, 8, 7), (8, 10, 7)]))
        self.assertEqual(house.deeds()[3:], [("dry",)] * 3)
        self.assertEqual(house.stacks(), [[], []])

    def test_dry_tells_the_loss_that_the_sack_had(self):
        house = House(1)
        house.put(1, 5, 10)
        house.tell(1, 1, 33)
        self.assertEqual(house.dry(), (1, 5, 33))
        house.put(1, 2, 44)
        house.tell(1, 1, 0)
        self.assertEqual(house.go(1), (2, 2, 0))

    def test_the_first_of_the_told_order_is_dried_not_the_top_of_the_greatest_share(self):
        house = House(2)
        house.put(1, 1, 20)
        house.put(1, 1, 0)
        house.put(2, 1, 9)
        self.assertEqual([house.dry(), house.dry(), house.dry()], [(2, 1, 0), (1, 1, 20), (3, 1, 9)])

    def test_of_like_shares_the_lower_stack_is_dried(self):
        house = House(3)
        house.put(3, 1, 2)
        house.put(2, 2, 4)
        self.assertEqual(house.dry(), (2, 2, 4))

    def test_the_number_of_a_new_sack_counts_the_puts_among_the_kept_deeds(self):
        house = House(1)
        self.assertEqual(house.put(1, 1, 1), 1)
        house.go(1)
        self.assertEqual(house.put(1, 1, 1), 2)
        house.dry()
        self.assertEqual(house.put(1, 1, 1), 3)
        house.back()
        self.assertEqual(house.put(1, 1, 1), 3)
        house.tell(1, 1, 5)
        house.go(1)
        self.assertEqual(house.put(1, 1, 1), 4)
        house.back()
        house.back()
        self.assertEqual(house.put(1, 1, 1), 4)
        house.back()
        house.back()
        house.back()
        self.assertEqual(house.put(1, 1, 1), 3)

    def test_as_many_sacks_as_sixty_deeds_can_put(self):
        house = House(1)
        for number in range(1, 15):
            self.assertEqual(house.put(1, 60, 100), number)
        for number in range(15, 38):
            self.assertEqual(house.go(1), (number - 1, 60, 100))
            self.assertEqual(house.put(1, 60, 100), number)
        self.assertEqual(len(house.deeds()), 60)

    def test_as_many_dryings_as_sixty_deeds_can_hold(self):
        house = House(1)
        for number in range(1, 31):
            self.assertEqual(house.put(1, 60, 100), number)
            self.assertEqual(house.dry(), (number, 60, 100))
        self.assertEqual((len(house.deeds()), house.hour(), house.lost(1800)), (60, 1800, 180000))


class MixedDeeds(unittest.TestCase):
    def check_kinds(self, deed, answer):
        self.assertIs(type(answer), KINDS[deed[0]], deed)
        if type(answer) is tuple:
            self.assertEqual([type(value) for value in answer], [int] * 3, deed)

    def check_row(self, many, deeds):
        house = House(many)
        plain = PlainHouse(many)
        for deed in deeds:
            answer = do_deed(house, deed)
            self.assertEqual(answer, plain.do(deed), (many, plain.kept))
            self.check_kinds(deed, answer)
            self.assertEqual(house.stacks(), plain.stacks, (many, plain.kept))
            self.assertEqual(house.deeds(), plain.kept)
            self.assertEqual(house.hour(), len(plain.rates), (many, plain.kept))
            numbers = [sack[0] for stack in house.stacks() for sack in stack]
            self.assertEqual(len(set(numbers)), len(numbers), (many, plain.kept))

    def test_over_all_the_bounds(self):
        for many, deeds in chance_rows(121, 120, range(1, 61), range(0, 101)):
            self.check_row(many, deeds)

    def test_with_like_shares(self):
        for many, deeds in chance_rows(122, 120, (1, 2, 4), (0, 1, 2, 4)):
            self.check_row(many, deeds)

    def test_at_the_edges(self):
        for many, deeds in chance_rows(123, 120, (1, 60), (0, 100)):
            self.check_row(many, deeds)

    def test_the_rows_are_long_and_mixed(self):
        rows = [deeds for many, deeds in chance_rows(121, 120, range(1, 61), range(0, 101))]
        self.assertGreater(len([deeds for deeds in rows if len(deeds) == 60]), 20)
        self.assertGreater(len([deeds for deeds in rows if len({deed[0] for deed in deeds}) == 4]), 40)

    def test_a_sack_keeps_its_number_and_its_hours_for_as_long_as_it_waits(self):
        for many, deeds in chance_rows(125, 100, range(1, 61), range(0, 101)):
            house = House(many)
            hours = {}
            for deed in deeds:
                answer = do_deed(house, deed)
                if deed[0] == "put":
                    hours[answer] = deed[2]
                for stack in house.stacks():
                    for sack in stack:
                        self.assertEqual(sack[1], hours[sack[0]])

    def test_the_deeds_are_tuples_of_plain_values(self):
        for many, deeds in chance_rows(126, 40, range(1, 61), range(0, 101)):
            house = House(many)
            for deed in deeds:
                do_deed(house, deed)
            told = house.deeds()
            self.assertIs(type(told), list)
            for deed in told:
                self.assertIs(type(deed), tuple)
                self.assertEqual([type(value) for value in deed], [str] + [int] * (len(deed) - 1))


if __name__ == "__main__":
    unittest.main()

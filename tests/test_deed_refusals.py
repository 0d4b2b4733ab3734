"""The refusals of the deeds: each alone, and several that are due at once."""

import itertools
import random
import unittest

from rotstacks.errors import (
    BadHours, BadLoss, DeedsFull, EmptyStack, HouseFull, NothingDone, NothingWaits, UnknownPlace, UnknownStack,
)
from rotstacks.walk import walked
from tests.stack_makers import PlainHouse, answer_of, ask_all, chance_rows, do_deed

GREAT = (10 ** 30, -10 ** 30)
GREATER = (10 ** 5000, -10 ** 5000)
HOURS = (0, 1, 60, 61, -1) + GREAT
LOSSES = (-1, 0, 100, 101) + GREAT

LISTED = {
    "put": (UnknownStack, BadHours, BadLoss, HouseFull, DeedsFull),
    "tell": (UnknownStack, EmptyStack, UnknownPlace, BadLoss, DeedsFull),
    "go": (UnknownStack, EmptyStack, DeedsFull),
    "dry": (NothingWaits, DeedsFull),
}
# A number of no stack names no stack on which nothing lies.
NEVER_BOTH = ((UnknownStack, EmptyStack),)

PUT = ("put", 1, 3, 4)
LOW = ("put", 2, 5, 6)
TELL = ("tell", 1, 1, 9)
# Houses of two stacks with 59, 60 or fewer deeds, of which 13, 14 or fewer sacks wait, on one stack, on both or none.
ROWS = (
    [], [PUT], [LOW], [PUT, LOW], [PUT] * 3, [PUT] * 13, [PUT] * 14, [PUT] * 7 + [LOW] * 7,
    [PUT] + [TELL] * 58, [PUT] + [TELL] * 59, [LOW] + [("tell", 2, 1, 3)] * 59, [PUT, LOW] + [TELL] * 58,
    [PUT] * 13 + [TELL] * 47, [PUT] * 14 + [TELL] * 45, [PUT] * 14 + [TELL] * 46,
    [PUT] * 7 + [LOW] * 7 + [TELL] * 46, [PUT, ("go", 1)] * 30, [PUT, ("dry",)] * 30, [PUT, ("go", 1)] * 29 + [PUT],
    [PUT, ("dry",)] * 29 + [LOW], [PUT, LOW, ("dry",), ("go", 2)] * 15,
)


def all_deeds(plain):
    """Deeds of each kind at all the edges, each combined with each."""
    numbers = (0, -1, -2) + tuple(range(1, len(plain.stacks) + 2)) + GREAT
    for at in numbers:
        yield ("go", at)
        for loss in LOSSES:
            for hours in HOURS:
                yield ("put", at, hours, loss)
            height = plain.height(at) or 0
            for place in sorted({0, 1, height, height + 1, -1, *GREAT}):
                yield ("tell", at, place, loss)
    yield ("dry",)


class RefusalsTest(unittest.TestCase):
    def setUp(self):
        self.pairs = set()

    def check_deed(self, house, plain, deed):
        """The house is as it was behind this: a refusal changes nothing, and what is not refused is taken back."""
        due = plain.due(deed)
        self.pairs.update((deed[0],) + pair for pair in itertools.combinations(due, 2))
        answer = answer_of(do_deed, house, deed)
        if due:
            self.assertIs(answer, due[0], (plain.kept, deed, due))
        else:
            self.assertNotIsInstance(answer, type, (plain.kept, deed))
            self.assertEqual(house.deeds(), plain.kept + [deed])
            self.assertEqual(house.back(), deed)

    def check_house(self, many, deeds):
        house = walked(many, deeds)
        plain = PlainHouse(many, deeds)
        before = ask_all(house)
        for deed in all_deeds(plain):
            self.check_deed(house, plain, deed)
            self.assertEqual((house.stacks(), house.deeds()), (plain.stacks, plain.kept), deed)
        self.assertEqual(ask_all(house), before)

    def check_refused(self, house, deed, wanted):
        before = ask_all(house)
        with self.assertRaises(ValueError) as caught:
            do_deed(house, deed)
        self.assertIs(type(caught.exception), wanted, deed)
        self.assertEqual(ask_all(house), before, deed)


class EachAlone(RefusalsTest):
    def test_unknown_stack(self):
        house = walked(3, [("put", at, 2, 3) for at in (1, 2, 3)])
        for at in (0, -1, -2, -3, 4, 5) + GREAT + GREATER:
            for deed in (("put", at, 1, 1), ("tell", at, 1, 1), ("go", at)):
                self.check_refused(house, deed, UnknownStack)

    def test_a_house_with_no_stack_knows_none(self):
        house = walked(0, [])
        for at in (0, 1, -1) + GREAT + GREATER:
            for deed in (("put", at, 1, 1), ("tell", at, 1, 1), ("go", at)):
                self.check_refused(house, deed, UnknownStack)

    def test_hours(self):
        house = walked(1, [])
        for hours in (0, 61, -1, 62) + GREAT + GREATER:
            self.check_refused(house, ("put", 1, hours, 50), BadHours)
        self.assertEqual([house.put(1, hours, 50) for hours in (1, 2, 59, 60)], [1, 2, 3, 4])

    def test_losses(self):
        house = walked(1, [])
        for loss in (-1, 101, -2, 102) + GREAT + GREATER:
            self.check_refused(house, ("put", 1, 30, loss), BadLoss)
        self.assertEqual([house.put(1, 30, loss) for loss in (0, 1, 99, 100)], [1, 2, 3, 4])
        for loss in (-1, 101, -2, 102) + GREAT + GREATER:
            self.check_refused(house, ("tell", 1, 1, loss), BadLoss)
        self.assertEqual([house.tell(1, 1, loss) for loss in (0, 1, 99, 100)], [100, 0, 1, 99])

    def test_places(self):
        for height in (1, 2, 5, 14):
            house = walked(2, [("put", 2, 2, place) for place in range(height)])
            for place in (0, -1, height + 1, -height, height + 2) + GREAT + GREATER:
                self.check_refused(house, ("tell", 2, place, 50), UnknownPlace)
            self.assertEqual(house.tell(2, height, 50), 0)
            self.assertEqual(house.tell(2, 1, 60), height - 1 if height > 1 else 50)

    def test_a_place_of_a_deeper_stack_beside_it(self):
        house = walked(2, [("put", 1, 2, 3), ("put", 2, 2, 3), ("put", 2, 2, 3)])
        self.check_refused(house, ("tell", 1, 2, 5), UnknownPlace)
        self.assertEqual(house.tell(2, 2, 5), 3)

    def test_empty_stack(self):
        house = walked(3, [("put", 2, 2, 3)])
        for at in (1, 3):
            self.check_refused(house, ("go", at), EmptyStack)
            self.check_refused(house, ("tell", at, 1, 1), EmptyStack)

    def test_a_stack_that_was_emptied(self):
        for deed in (("go", 1), ("dry",)):
            house = walked(1, [("put", 1, 2, 3), deed])
            self.check_refused(house, ("go", 1), EmptyStack)
            self.check_refused(house, ("tell", 1, 1, 1), EmptyStack)
            self.check_refused(house, ("dry",), NothingWaits)

    def test_nothing_waits(self):
        for many in range(6):
            self.check_refused(walked(many, []), ("dry",), NothingWaits)

    def test_fourteen_sacks_wait(self):
        for rows in ([PUT] * 14, [PUT] * 7 + [LOW] * 7, [LOW] * 14):
            house = walked(2, rows[:13])
            self.assertEqual(house.put(1, 1, 1), 14)
            for at in (1, 2):
                self.check_refused(house, ("put", at, 1, 1), HouseFull)
            house.dry()
            self.assertEqual(house.put(2, 1, 1), 15)
            self.check_refused(house, ("put", 1, 1, 1), HouseFull)
            house.back()
            self.assertEqual(house.put(1, 1, 1), 15)

    def test_sixty_deeds_are_kept(self):
        house = walked(2, [PUT] + [TELL] * 58)
        self.assertEqual(house.tell(1, 1, 1), 9)
        for deed in (("put", 1, 1, 1), ("put", 2, 1, 1), ("tell", 1, 1, 1), ("go", 1), ("dry",)):
            self.check_refused(house, deed, DeedsFull)
        self.assertEqual(house.back(), ("tell", 1, 1, 1))
        self.assertEqual(house.dry(), (1, 3, 9))

    def test_each_kind_of_deed_may_be_the_sixtieth(self):
        for deed in (("put", 1, 1, 1), ("put", 2, 1, 1), ("tell", 1, 1, 1), ("go", 1), ("dry",)):
            house = walked(2, [PUT] + [TELL] * 58)
            do_deed(house, deed)
            self.assertEqual(len(house.deeds()), 60)
            for other in (("put", 1, 1, 1), ("put", 2, 1, 1)):
                self.check_refused(house, other, DeedsFull)

    def test_nothing_done(self):
        for many in range(6):
            house = walked(many, [])
            self.check_refused(house, ("back",), NothingDone)
            self.check_refused(house, ("back",), NothingDone)


class SeveralAtOnce(RefusalsTest):
    def test_all_edges_with_one_another(self):
        for deeds in ROWS:
            self.check_house(2, deeds)
        for many in (0, 1, 3, 5):
            self.check_house(many, [])
            self.check_house(many, [("put", at, 2, 3) for at in range(1, many + 1)])
        wanted = {(word,) + pair for word, listed in LISTED.items() for pair in itertools.combinations(listed, 2)
                  if pair not in NEVER_BOTH}
        self.assertEqual(self.pairs, wanted)

    def test_all_that_can_be_due_at_once(self):
        full = walked(2, [PUT] * 14 + [TELL] * 46)
        for deed, wanted in (
            (("put", 3, 0, 101), UnknownStack), (("put", 1, 0, 101), BadHours), (("put", 1, 1, 101), BadLoss),
            (("put", 1, 1, 100), HouseFull), (("tell", 0, 0, -1), UnknownStack), (("tell", 2, 0, -1), EmptyStack),
            (("tell", 1, 0, -1), UnknownPlace), (("tell", 1, 15, 101), UnknownPlace), (("tell", 1, 14, 101), BadLoss),
            (("tell", 1, 14, 100), DeedsFull), (("go", 3), UnknownStack), (("go", 2), EmptyStack),
            (("go", 1), DeedsFull), (("dry",), DeedsFull),
        ):
            self.check_refused(full, deed, wanted)
        self.check_refused(walked(2, [PUT, ("go", 1)] * 30), ("dry",), NothingWaits)
        self.check_refused(walked(2, [PUT, ("go", 1)] * 30), ("put", 1, 1, 1), DeedsFull)


class ManyHouses(RefusalsTest):
    def test_refusals_among_mixed_deeds(self):
        chance = random.Random(131)
        for many, deeds in chance_rows(132, 60, (1, 2, 3), (0, 1, 2, 100)):
            house = walked(many, [])
            plain = PlainHouse(many)
            for deed in deeds:
                for tried in chance.sample(list(all_deeds(plain)), 12):
                    self.check_deed(house, plain, tried)
                self.assertEqual(do_deed(house, deed), plain.do(deed))
                self.assertEqual((house.stacks(), house.deeds()), (plain.stacks, plain.kept))
                self.assertEqual((house.hour(), house.stretches()), (len(plain.rates), plain.stretches))

    def test_a_refused_deed_changes_no_answer(self):
        chance = random.Random(133)
        for many, deeds in chance_rows(134, 60, (1, 2, 3), (0, 1, 2, 100)):
            house = walked(many, deeds)
            plain = PlainHouse(many, deeds)
            for deed in chance.sample(list(all_deeds(plain)), 12):
                if plain.due(deed):
                    self.check_refused(house, deed, plain.due(deed)[0])


if __name__ == "__main__":
    unittest.main()

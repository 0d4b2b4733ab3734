"""A house with its stacks, the deeds that are done in it and the questions that it answers."""

from rotstacks.costs import least_cost, order_cost, order_plan, turned_pairs
from rotstacks.errors import (
    BadCount, BadHours, BadLoss, DeedsFull, EmptyStack, HouseFull, NothingDone, NothingWaits, UnknownPlace,
)
from rotstacks.every import least_of_all
from rotstacks.losses import hours_gone, lost_by
from rotstacks.orders import check_known, told_order
from rotstacks.reasons import why_least, why_more
from rotstacks.sacks import (
    loss_in_all, sack_hours, sack_loss, sack_number, sacks_in_all, top_sack, with_stack, without_top,
)

MOST_STACKS = 5
MOST_HOURS = 60
MOST_LOSS = 100
MOST_WAITING = 14
MOST_DEEDS = 60


def check_count(many):
    if many < 0 or many > MOST_STACKS:
        raise BadCount(f"a house has from 0 to {MOST_STACKS} stacks")


def check_hours(hours):
    if hours < 1 or hours > MOST_HOURS:
        raise BadHours(f"a sack takes from 1 to {MOST_HOURS} hours")


def check_loss(loss):
    if loss < 0 or loss > MOST_LOSS:
        raise BadLoss(f"the loss of a sack is from 0 to {MOST_LOSS}")


def check_room(stacks):
    if sacks_in_all(stacks) >= MOST_WAITING:
        raise HouseFull(f"{MOST_WAITING} sacks wait already")


def check_lies(stacks, at):
    if len(stacks[at - 1]) == 0:
        raise EmptyStack(f"nothing lies on stack {at}")


def check_place(stack, place):
    if place < 1 or place > len(stack):
        raise UnknownPlace("the place is above the top of the stack or deeper than the stack")


def check_waits(stacks):
    if sacks_in_all(stacks) == 0:
        raise NothingWaits("no sack lies on any stack")


def check_deeds(deeds):
    if len(deeds) >= MOST_DEEDS:
        raise DeedsFull(f"{MOST_DEEDS} deeds are kept already")


def next_number(deeds):
    # The sacks that wait are too few to tell it: some that were put may have gone or been dried.
    return 1 + len([deed for deed in deeds if deed[0] == "put"])


def told_anew(sack, loss):
    return (sack_number(sack), sack_hours(sack), loss)


class House:
    def __init__(self, many):
        check_count(many)
        self.kept = []
        # Behind each kept deed, and first of all behind none: the stacks and the stretches as they were then.
        # Nothing within them is ever changed, so a deed is taken back by leaving out the last of them.
        self.states = [([[] for place in range(many)], [])]

    def piles(self):
        return self.states[-1][0]

    def spans(self):
        return self.states[-1][1]

    def keep(self, deed, piles, spans):
        self.kept.append(deed)
        self.states.append((piles, spans))

    def put(self, at, hours, loss):
        piles = self.piles()
        check_known(piles, at)
        check_hours(hours)
        check_loss(loss)
        check_room(piles)
        check_deeds(self.kept)
        number = next_number(self.kept)
        stack = [(number, hours, loss)] + piles[at - 1]
        self.keep(("put", at, hours, loss), with_stack(piles, at, stack), self.spans())
        return number

    def tell(self, at, place, loss):
        piles = self.piles()
        check_known(piles, at)
        check_lies(piles, at)
        stack = piles[at - 1]
        check_place(stack, place)
        check_loss(loss)
        check_deeds(self.kept)
        sack = stack[place - 1]
        changed = stack[:place - 1] + [told_anew(sack, loss)] + stack[place:]
        self.keep(("tell", at, place, loss), with_stack(piles, at, changed), self.spans())
        return sack_loss(sack)

    def go(self, at):
        piles = self.piles()
        check_known(piles, at)
        check_lies(piles, at)
        check_deeds(self.kept)
        self.keep(("go", at), without_top(piles, at), self.spans())
        return top_sack(piles, at)

    def dry(self):
        piles = self.piles()
        check_waits(piles)
        check_deeds(self.kept)
        at = told_order(piles)[0]
        sack = top_sack(piles, at)
        begun = self.hour()
        stretch = (begun, begun + sack_hours(sack), loss_in_all(piles))
        self.keep(("dry",), without_top(piles, at), self.spans() + [stretch])
        return sack

    def back(self):
        if len(self.kept) == 0:
            raise NothingDone("no deed is kept")
        self.states.pop()
        return self.kept.pop()

    def deeds(self):
        return list(self.kept)

    def stacks(self):
        return [list(pile) for pile in self.piles()]

    def hour(self):
        return hours_gone(self.spans())

    def order(self):
        return told_order(self.piles())

    def plan(self):
        return order_plan(self.piles(), self.order())

    def cost(self):
        return least_cost(self.piles())

    def why(self):
        return why_least(self.piles())

    def against(self, order):
        piles = self.piles()
        more = order_cost(piles, order) - least_cost(piles)
        return (more, turned_pairs(piles, order), why_more(piles, order))

    def every(self):
        return least_of_all(self.piles())

    def stretches(self):
        return list(self.spans())

    def lost(self, hour):
        return lost_by(self.spans(), hour)

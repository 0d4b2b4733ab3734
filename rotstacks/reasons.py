"""Why no order costs less than the told one, and why another order costs more."""

from rotstacks.blocks import share_gap
from rotstacks.costs import order_plan
from rotstacks.orders import block_turns, sack_places, taken_sacks, turn_sacks, turn_share
from rotstacks.sacks import sack_hours, sack_loss, sack_number


def block_debts(share, sacks):
    """The debts of the beginnings that are shorter than the block, from the shortest on."""
    debts = []
    hours = 0
    loss = 0
    for sack in sacks[:-1]:
        hours += sack_hours(sack)
        loss += sack_loss(sack)
        debts.append(share_gap(share, (hours, loss)))
    return debts


def turn_fall(turns, place):
    if place + 1 == len(turns):
        return 0
    return share_gap(turn_share(turns[place]), turn_share(turns[place + 1]))


def why_least(stacks):
    turns = block_turns(stacks)
    rows = []
    for place, sacks in enumerate(turn_sacks(stacks, turns)):
        turn = turns[place]
        rows.append(turn + (block_debts(turn_share(turn), sacks), turn_fall(turns, place)))
    return rows


def turned_hours(first, second, places):
    """The products of the hours of each pair that is turned about, added up."""
    total = 0
    for one in first:
        for two in second:
            if places[sack_number(two)] < places[sack_number(one)]:
                total += sack_hours(one) * sack_hours(two)
    return total


def turned_reasons(shares, blocks, places):
    reasons = []
    for turn, first in enumerate(blocks):
        for later in range(turn + 1, len(blocks)):
            second = blocks[later]
            over = share_gap(shares[turn], shares[later]) * turned_hours(first, second, places)
            if over > 0:
                under = shares[turn][0] * shares[later][0]
                reasons.append(("turned", sack_number(first[0]), sack_number(second[0]), over, under))
    return reasons


def plan_spans(plan):
    """The hours (begun, dry) of each sack, by the sack's number."""
    return dict([(number, (begun, dry)) for number, at, begun, dry in plan])


def parted_reasons(shares, blocks, spans):
    reasons = []
    for share, sacks in zip(shares, blocks):
        for place, debt in enumerate(block_debts(share, sacks)):
            one = sack_number(sacks[place])
            two = sack_number(sacks[place + 1])
            over = debt * (spans[two][0] - spans[one][1])
            if over > 0:
                reasons.append(("parted", one, two, over, share[0]))
    return reasons


def why_more(stacks, order):
    plan = order_plan(stacks, order)
    places = sack_places(taken_sacks(stacks, order))
    turns = block_turns(stacks)
    blocks = turn_sacks(stacks, turns)
    shares = [turn_share(turn) for turn in turns]
    return turned_reasons(shares, blocks, places) + parted_reasons(shares, blocks, plan_spans(plan))

"""What an order costs, hour by hour as a plan and in all, and the sacks that it turns about."""

from rotstacks.blocks import share_gap
from rotstacks.orders import sack_places, taken_sacks, told_order
from rotstacks.sacks import sack_hours, sack_loss, sack_number, sack_share


def order_plan(stacks, order):
    plan = []
    hour = 0
    for at, sack in zip(order, taken_sacks(stacks, order)):
        dry = hour + sack_hours(sack)
        plan.append((sack_number(sack), at, hour, dry))
        hour = dry
    return plan


def order_cost(stacks, order):
    cost = 0
    hour = 0
    for sack in taken_sacks(stacks, order):
        hour += sack_hours(sack)
        cost += sack_loss(sack) * hour
    return cost


def least_cost(stacks):
    return order_cost(stacks, told_order(stacks))


def turned_pairs(stacks, order):
    places = sack_places(taken_sacks(stacks, order))
    told = taken_sacks(stacks, told_order(stacks))
    pairs = []
    for place, ahead in enumerate(told):
        for other in told[place + 1:]:
            if places[sack_number(other)] < places[sack_number(ahead)]:
                amount = share_gap(sack_share(ahead), sack_share(other))
                pairs.append((sack_number(ahead), sack_number(other), amount))
    return pairs

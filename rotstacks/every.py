"""All whole orders of few sacks, and the least that any of them costs."""

from rotstacks.costs import order_cost
from rotstacks.errors import TooManyOrders
from rotstacks.sacks import sacks_in_all

MOST_SACKS = 7


def orders_of_heights(heights):
    if sum(heights) == 0:
        return [[]]
    orders = []
    # The lesser number is taken first, so the orders come in the order of a dictionary.
    for place, height in enumerate(heights):
        if height > 0:
            rest = heights[:place] + [height - 1] + heights[place + 1:]
            orders.extend([[place + 1] + order for order in orders_of_heights(rest)])
    return orders


def all_orders(stacks):
    if sacks_in_all(stacks) > MOST_SACKS:
        raise TooManyOrders(f"all orders are told of at most {MOST_SACKS} sacks")
    return orders_of_heights([len(stack) for stack in stacks])


def least_of_all(stacks):
    costs = [order_cost(stacks, order) for order in all_orders(stacks)]
    least = min(costs)
    return (len(costs), least, costs.count(least))

"""Stacks and orders for the tests, made from pairs (hours, loss) that are told from the top down."""

import copy
import functools
import itertools
import random

# Each number from 1 to 60 once, so that no number of a sack tells where it lies.
SCRAMBLED = tuple(37 * place % 61 for place in range(1, 61))


def make_stack(pairs):
    return [(number, hours, loss) for number, (hours, loss) in enumerate(pairs, start=1)]


def all_stacks(hours, losses, highest):
    pairs = list(itertools.product(hours, losses))
    for height in range(highest + 1):
        for chosen in itertools.product(pairs, repeat=height):
            yield make_stack(chosen)


def chance_stacks(seed, many, hours, losses, highest=14):
    # A seed of its own keeps each test's stacks the same from run to run.
    chance = random.Random(seed)
    for turn in range(many):
        height = chance.randint(0, highest)
        yield make_stack([(chance.choice(hours), chance.choice(losses)) for place in range(height)])


def make_stacks(columns):
    numbers = iter(SCRAMBLED)
    return [[(next(numbers), hours, loss) for hours, loss in pairs] for pairs in columns]


def all_heights(most_stacks, most_sacks):
    for many in range(most_stacks + 1):
        for heights in itertools.product(range(most_sacks + 1), repeat=many):
            if sum(heights) <= most_sacks:
                yield heights


def all_houses(hours, losses, most_stacks, most_sacks):
    """Each list of stacks within these bounds, those with empty stacks among them."""
    pairs = list(itertools.product(hours, losses))
    for heights in all_heights(most_stacks, most_sacks):
        for chosen in itertools.product(pairs, repeat=sum(heights)):
            rest = iter(chosen)
            yield make_stacks([list(itertools.islice(rest, height)) for height in heights])


def chance_houses(seed, many, hours, losses, most_stacks=5, most_sacks=14):
    chance = random.Random(seed)
    for turn in range(many):
        columns = [[] for place in range(chance.randint(0, most_stacks))]
        for sack in range(chance.randint(0, most_sacks) if columns else 0):
            chance.choice(columns).append((chance.choice(hours), chance.choice(losses)))
        yield make_stacks(columns)


def some_order(stacks):
    """A whole order, the lower stacks first."""
    return [at for at, stack in enumerate(stacks, start=1) for sack in stack]


def chance_orders(seed, stacks, many):
    chance = random.Random(seed)
    for turn in range(many):
        order = some_order(stacks)
        chance.shuffle(order)
        yield order


@functools.cache
def orders_of_heights(heights):
    numbers = [at for at, height in enumerate(heights, start=1) for place in range(height)]
    return tuple(sorted(set(itertools.permutations(numbers))))


def whole_orders(stacks):
    """Every whole order of few sacks once, in the order of a dictionary, by going through all permutations."""
    return [list(order) for order in orders_of_heights(tuple(len(stack) for stack in stacks))]


def sacks_taken(stacks, order):
    """The sacks in the order in which a whole order takes them off the tops."""
    left = copy.deepcopy(stacks)
    return [left[at - 1].pop(0) for at in order]


def cost_by_hours(sacks):
    """What the sacks cost when they are dried one behind another, hour by hour."""
    cost = 0
    waiting = list(sacks)
    while waiting:
        for hour in range(waiting[0][1]):
            cost += sum(sack[2] for sack in waiting)
        waiting.pop(0)
    return cost


def longest_greatest_beginning(stack):
    """How many sacks the beginning of the greatest share has, the longest of those that have it."""
    most = 1
    for many in range(2, len(stack) + 1):
        hours, loss = sums(stack[:most])
        if sums(stack[:many])[1] * hours >= loss * sums(stack[:many])[0]:
            most = many
    return most


def sums(sacks):
    return (sum(sack[1] for sack in sacks), sum(sack[2] for sack in sacks))


def parted(stack):
    """The blocks of the stack as lists of sacks, found another way than the program finds them."""
    rest = list(stack)
    parts = []
    while rest:
        many = longest_greatest_beginning(rest)
        parts.append(rest[:many])
        rest = rest[many:]
    return parts

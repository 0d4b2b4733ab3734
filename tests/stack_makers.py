"""Stacks for the tests, made from pairs (hours, loss) that are told from the top down."""

import itertools
import random


def make_stack(pairs):
    return [(number, hours, loss) for number, (hours, loss) in enumerate(pairs, start=1)]


def all_stacks(hours, losses, highest):
    pairs = list(itertools.product(hours, losses))
    for height in range(highest + 1):
        for chosen in itertools.product(pairs, repeat=height):
            yield make_stack(chosen)


def chance_stacks(seed, many, hours, losses, highest=14):
    # A seed of its own keeps each test's stacks the same from run to run.
    chance = random.Random(seed)
    for turn in range(many):
        height = chance.randint(0, highest)
        yield make_stack([(chance.choice(hours), chance.choice(losses)) for place in range(height)])

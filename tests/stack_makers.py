"""Stacks, orders, houses and deeds for the tests, and what the words of the document make of them."""

import copy
import functools
import itertools
import random
from fractions import Fraction

from rotstacks.errors import (
    BadHours, BadLoss, DeedsFull, EmptyStack, HouseFull, NothingWaits, RotError, UnknownPlace, UnknownStack,
)
from rotstacks.house import House

# Each number from 1 to 60 once, so that no number of a sack tells where it lies.
SCRAMBLED = tuple(37 * place % 61 for place in range(1, 61))


def make_stack(pairs):
    return [(number, hours, loss) for number, (hours, loss) in enumerate(pairs, start=1)]


def all_stacks(hours, losses, highest):
    pairs = list(itertools.product(hours, losses))
    for height in range(highest + 1):
        for chosen in itertools.product(pairs, repeat=height):
            yield make_stack(chosen)


def chance_stacks(seed, many, hours, losses, highest=14):
    # A seed of its own keeps each test's stacks the same from run to run.
    chance = random.Random(seed)
    for turn in range(many):
        height = chance.randint(0, highest)
        yield make_stack([(chance.choice(hours), chance.choice(losses)) for place in range(height)])


def make_stacks(columns):
    numbers = iter(SCRAMBLED)
    return [[(next(numbers), hours, loss) for hours, loss in pairs] for pairs in columns]


def all_heights(most_stacks, most_sacks):
    for many in range(most_stacks + 1):
        for heights in itertools.product(range(most_sacks + 1), repeat=many):
            if sum(heights) <= most_sacks:
                yield heights


def all_houses(hours, losses, most_stacks, most_sacks):
    """Each list of stacks within these bounds, those with empty stacks among them."""
    pairs = list(itertools.product(hours, losses))
    for heights in all_heights(most_stacks, most_sacks):
        for chosen in itertools.product(pairs, repeat=sum(heights)):
            rest = iter(chosen)
            yield make_stacks([list(itertools.islice(rest, height)) for height in heights])


def chance_houses(seed, many, hours, losses, most_stacks=5, most_sacks=14):
    chance = random.Random(seed)
    for turn in range(many):
        columns = [[] for place in range(chance.randint(0, most_stacks))]
        for sack in range(chance.randint(0, most_sacks) if columns else 0):
            chance.choice(columns).append((chance.choice(hours), chance.choice(losses)))
        yield make_stacks(columns)


def some_order(stacks):
    """A whole order, the lower stacks first."""
    return [at for at, stack in enumerate(stacks, start=1) for sack in stack]


def chance_orders(seed, stacks, many):
    chance = random.Random(seed)
    for turn in range(many):
        order = some_order(stacks)
        chance.shuffle(order)
        yield order


@functools.cache
def orders_of_heights(heights):
    numbers = [at for at, height in enumerate(heights, start=1) for place in range(height)]
    return tuple(sorted(set(itertools.permutations(numbers))))


def whole_orders(stacks):
    """Every whole order of few sacks once, in the order of a dictionary, by going through all permutations."""
    return [list(order) for order in orders_of_heights(tuple(len(stack) for stack in stacks))]


def sacks_taken(stacks, order):
    """The sacks in the order in which a whole order takes them off the tops."""
    left = copy.deepcopy(stacks)
    return [left[at - 1].pop(0) for at in order]


def cost_by_hours(sacks):
    """What the sacks cost when they are dried one behind another, hour by hour."""
    cost = 0
    waiting = list(sacks)
    while waiting:
        for hour in range(waiting[0][1]):
            cost += sum(sack[2] for sack in waiting)
        waiting.pop(0)
    return cost


def longest_greatest_beginning(stack):
    """How many sacks the beginning of the greatest share has, the longest of those that have it."""
    most = 1
    for many in range(2, len(stack) + 1):
        hours, loss = sums(stack[:most])
        if sums(stack[:many])[1] * hours >= loss * sums(stack[:many])[0]:
            most = many
    return most


def sums(sacks):
    return (sum(sack[1] for sack in sacks), sum(sack[2] for sack in sacks))


def parted(stack):
    """The blocks of the stack as lists of sacks, found another way than the program finds them."""
    rest = list(stack)
    parts = []
    while rest:
        many = longest_greatest_beginning(rest)
        parts.append(rest[:many])
        rest = rest[many:]
    return parts


def turns_by_words(stacks):
    """The turns by the words of the document, of blocks that were found another way."""
    blocks = [(at, part) for at, stack in enumerate(stacks, start=1) for part in parted(stack)]
    told = [(at, len(part)) + sums(part) for at, part in blocks]
    return sorted(told, key=lambda turn: (-Fraction(turn[3], turn[2]), turn[0]))


def order_by_words(stacks):
    return [at for at, many, hours, loss in turns_by_words(stacks) for place in range(many)]


def answer_of(function, *arguments):
    """What is told, or the class of the refusal."""
    try:
        return function(*arguments)
    except RotError as refusal:
        return type(refusal)


def lists_within(value):
    """Each list in the value, itself among them, as often as it stands there."""
    found = [value] if isinstance(value, list) else []
    if isinstance(value, (list, tuple)):
        for part in value:
            found += lists_within(part)
    return found


class PlainHouse:
    """A house by the words of the document, hour by hour, with nothing of the program's house in it."""

    def __init__(self, many, deeds=()):
        self.stacks = [[] for place in range(many)]
        self.kept = []
        self.rates = []
        self.stretches = []
        for deed in deeds:
            self.do(deed)

    def do(self, deed):
        answer = getattr(self, "do_" + deed[0])(*deed[1:])
        self.kept.append(deed)
        return answer

    def do_put(self, at, hours, loss):
        number = 1
        for deed in self.kept:
            if deed[0] == "put":
                number += 1
        self.stacks[at - 1].insert(0, (number, hours, loss))
        return number

    def do_tell(self, at, place, loss):
        number, hours, had = self.stacks[at - 1][place - 1]
        self.stacks[at - 1][place - 1] = (number, hours, loss)
        return had

    def do_go(self, at):
        return self.stacks[at - 1].pop(0)

    def do_dry(self):
        at = order_by_words(self.stacks)[0]
        begun = len(self.rates)
        for hour in range(self.stacks[at - 1][0][1]):
            self.rates.append(sum(sack[2] for stack in self.stacks for sack in stack))
        self.stretches.append((begun, len(self.rates), self.rates[-1]))
        return self.stacks[at - 1].pop(0)

    def waiting(self):
        return sum(len(stack) for stack in self.stacks)

    def due(self, deed):
        """Each refusal that is due, in the order in which the document lists them for that deed."""
        return [refusal for refusal, is_due in getattr(self, "due_" + deed[0])(*deed[1:]) if is_due]

    def height(self, at):
        return len(self.stacks[at - 1]) if at in range(1, len(self.stacks) + 1) else None

    def due_put(self, at, hours, loss):
        return [(UnknownStack, self.height(at) is None), (BadHours, hours not in range(1, 61)),
                (BadLoss, loss not in range(101)), (HouseFull, self.waiting() >= 14),
                (DeedsFull, len(self.kept) >= 60)]

    def due_tell(self, at, place, loss):
        return [(UnknownStack, self.height(at) is None), (EmptyStack, self.height(at) == 0),
                (UnknownPlace, place not in range(1, (self.height(at) or 0) + 1)), (BadLoss, loss not in range(101)),
                (DeedsFull, len(self.kept) >= 60)]

    def due_go(self, at):
        return [(UnknownStack, self.height(at) is None), (EmptyStack, self.height(at) == 0),
                (DeedsFull, len(self.kept) >= 60)]

    def due_dry(self):
        return [(NothingWaits, self.waiting() == 0), (DeedsFull, len(self.kept) >= 60)]


def do_deed(house, deed):
    return getattr(house, deed[0])(*deed[1:])


def house_of(stacks):
    """A house with sacks of the same hours and losses; their numbers are its own."""
    house = House(len(stacks))
    for at, stack in enumerate(stacks, start=1):
        for number, hours, loss in reversed(stack):
            house.put(at, hours, loss)
    return house


def chance_deed(chance, plain, hours, losses, words):
    """A deed that is not refused on this plain house, or None where none is found soon."""
    for turn in range(40):
        word = chance.choice(words)
        at = chance.randint(1, max(1, len(plain.stacks)))
        deed = {
            "put": ("put", at, chance.choice(hours), chance.choice(losses)),
            "tell": ("tell", at, chance.randint(1, max(1, plain.height(at) or 0)), chance.choice(losses)),
            "go": ("go", at),
            "dry": ("dry",),
        }[word]
        if not plain.due(deed):
            return deed
    return None


# Each row is a mixture of its own: even, a house that fills, one that is told anew, one that empties.
MIXTURES = (
    ("put", "tell", "go", "dry"),
    ("put", "put", "put", "put", "tell", "go", "dry"),
    ("put", "put", "tell", "tell", "tell", "tell", "dry"),
    ("put", "put", "dry", "dry", "dry", "tell", "go"),
    ("put", "put", "put", "dry"),
)


def chance_deeds(chance, many, length, hours, losses):
    """A row of up to so many deeds of mixed kinds, none of which is refused."""
    plain = PlainHouse(many)
    words = chance.choice(MIXTURES)
    while len(plain.kept) < length:
        deed = chance_deed(chance, plain, hours, losses, words)
        if deed is None:
            break
        plain.do(deed)
    return plain.kept


def chance_rows(seed, many, hours, losses, longest=60, most_stacks=5):
    """Pairs of a number of stacks and a row of deeds that a new house with so many stacks does not refuse."""
    chance = random.Random(seed)
    for turn in range(many):
        stacks = chance.randint(0, most_stacks)
        # Drawn beyond the longest, so that many a row has just that length.
        length = min(longest, chance.randint(0, 2 * longest))
        yield stacks, chance_deeds(chance, stacks, length, hours, losses)


def ask_orders(house):
    """What the house answers of a few orders, whole ones and such as are refused."""
    stacks = house.stacks()
    whole = some_order(stacks)
    orders = (whole, whole[::-1], whole[1:], whole + [1], whole + [0], whole + [10 ** 30])
    return [answer_of(house.against, order) for order in orders]


def ask_lost(house):
    hour = house.hour()
    return [answer_of(house.lost, asked) for asked in [*range(-1, hour + 2), 10 ** 30, -10 ** 30]]


def ask_all(house):
    """What the house answers to every question, a refusal as its class."""
    told = [house.stacks(), house.deeds(), house.hour(), house.order(), house.plan(), house.cost(), house.why(),
            answer_of(house.every), house.stretches()]
    return told + ask_orders(house) + ask_lost(house)

"""The turns of the blocks, told as tuples (at, many, hours, loss), the told order, and orders that are handed in."""

from rotstacks.blocks import share_sign, stack_blocks
from rotstacks.errors import EmptyStack, ShortOrder, UnknownStack
from rotstacks.sacks import sack_number


def turn_share(turn):
    return (turn[2], turn[3])


def place_of_turn(turns, turn):
    # Behind those of like shares: the stacks come by their numbers, and the lower number has its turn first.
    place = 0
    while place < len(turns) and share_sign(turn_share(turns[place]), turn_share(turn)) >= 0:
        place += 1
    return place


def block_turns(stacks):
    turns = []
    for at, stack in enumerate(stacks, start=1):
        for many, hours, loss in stack_blocks(stack):
            turn = (at, many, hours, loss)
            turns.insert(place_of_turn(turns, turn), turn)
    return turns


def turn_sacks(stacks, turns):
    """The sacks of each block as a list from the top down, the blocks in their turns."""
    taken = [0 for stack in stacks]
    sacks = []
    for at, many, hours, loss in turns:
        begin = taken[at - 1]
        taken[at - 1] = begin + many
        sacks.append(stacks[at - 1][begin:begin + many])
    return sacks


def told_order(stacks):
    order = []
    for at, many, hours, loss in block_turns(stacks):
        order.extend([at] * many)
    return order


def check_known(stacks, at):
    if at < 1 or at > len(stacks):
        # The number is left out of the words: Python writes out no number of some thousand digits.
        raise UnknownStack("the number is that of no stack")


def check_whole(stacks, order):
    left = [len(stack) for stack in stacks]
    for at in order:
        if left[at - 1] == 0:
            raise EmptyStack(f"the order takes from stack {at} when nothing is left on it")
        left[at - 1] -= 1
    if sum(left) > 0:
        raise ShortOrder("the order leaves a sack over")


def check_order(stacks, order):
    # An unknown number at the last place is refused ahead of an empty stack at the first.
    for at in order:
        check_known(stacks, at)
    check_whole(stacks, order)


def taken_sacks(stacks, order):
    """The sacks as the order takes them; an order that is not whole is refused."""
    check_order(stacks, order)
    taken = [0 for stack in stacks]
    sacks = []
    for at in order:
        sacks.append(stacks[at - 1][taken[at - 1]])
        taken[at - 1] += 1
    return sacks


def sack_places(sacks):
    """The place of each sack in the list, by the sack's number."""
    return dict([(sack_number(sack), place) for place, sack in enumerate(sacks)])

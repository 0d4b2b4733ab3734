"""Sacks, told as tuples (number, hours, loss), and stacks, told as lists of sacks from the top down."""


def sack_number(sack):
    return sack[0]


def sack_hours(sack):
    return sack[1]


def sack_loss(sack):
    return sack[2]


def sack_share(sack):
    return (sack_hours(sack), sack_loss(sack))


def sacks_in_all(stacks):
    return sum([len(stack) for stack in stacks])


def loss_in_all(stacks):
    total = 0
    for stack in stacks:
        total += sum([sack_loss(sack) for sack in stack])
    return total


def top_sack(stacks, at):
    return stacks[at - 1][0]


def with_stack(stacks, at, stack):
    """The stacks with this one in the place of the one of that number, as a new list."""
    return stacks[:at - 1] + [stack] + stacks[at:]


def without_top(stacks, at):
    # A stack that is empty by then stays in the list, so that it keeps its number.
    return with_stack(stacks, at, stacks[at - 1][1:])

"""Sacks, told as tuples (number, hours, loss), and stacks, told as lists of sacks from the top down."""


def sack_number(sack):
    return sack[0]


def sack_hours(sack):
    return sack[1]


def sack_loss(sack):
    return sack[2]


def sack_share(sack):
    return (sack_hours(sack), sack_loss(sack))


def sacks_in_all(stacks):
    return sum([len(stack) for stack in stacks])

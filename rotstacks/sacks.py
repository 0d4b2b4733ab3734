"""Sacks, told as tuples (number, hours, loss), and stacks, told as lists of sacks from the top down."""


def sack_number(sack):
    return sack[0]


def sack_hours(sack):
    return sack[1]


def sack_loss(sack):
    return sack[2]

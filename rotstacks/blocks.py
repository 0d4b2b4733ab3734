"""Shares held together exactly, and the parting of a stack into blocks, told as tuples (many, hours, loss)."""

from rotstacks.sacks import sack_hours, sack_loss


def share_gap(one, other):
    # The products stand for the quotients, which would not be whole numbers.
    return one[1] * other[0] - other[1] * one[0]


def share_sign(one, other):
    gap = share_gap(one, other)
    if gap > 0:
        return 1
    if gap < 0:
        return -1
    return 0


def single_block(sack):
    return (1, sack_hours(sack), sack_loss(sack))


def joined_block(upper, lower):
    return (upper[0] + lower[0], upper[1] + lower[1], upper[2] + lower[2])


def block_share(block):
    return (block[1], block[2])


def has_greater_share(upper, lower):
    return share_sign(block_share(upper), block_share(lower)) > 0


def stack_blocks(stack):
    blocks = []
    for sack in stack:
        block = single_block(sack)
        # A like share joins as well as a greater one: a next block's share must be lesser, never like.
        # A joined block may again be too great for the one ahead of it, so the joining goes on upwards.
        while len(blocks) > 0 and not has_greater_share(blocks[-1], block):
            block = joined_block(blocks.pop(), block)
        blocks.append(block)
    return blocks

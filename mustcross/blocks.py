"""Blocks: lots of numbered places that no single place parts, as masks."""

from mustcross.masks import lowest


def blocks_from(near, root, number):
    """The list of the blocks that hang together with a root.

    The dict number, in which the places stand as they are come to, is filled on.
    """
    found = []
    number[root] = len(number)
    low = {root: number[root]}
    left = {root: near[root]}
    way = [root]
    waiting = [root]
    while way:
        here = way[-1]
        if left[here]:
            other = lowest(left[here])
            left[here] = left[here] & ~(1 << other)
            if other in number:
                low[here] = min(low[here], number[other])
            else:
                number[other] = len(number)
                low[other] = number[other]
                left[other] = near[other] & ~(1 << here)
                way.append(other)
                waiting.append(other)
        else:
            way.pop()
            if way:
                close_block(way[-1], here, number, low, waiting, found)
    return found


def close_block(ahead, here, number, low, waiting, found):
    """What is due when all that lies behind a place is done: it may close a block."""
    low[ahead] = min(low[ahead], low[here])
    if low[here] < number[ahead]:
        return
    mask = 1 << ahead | 1 << here
    while waiting[-1] != here:
        mask = mask | 1 << waiting.pop()
    waiting.pop()
    found.append(mask)


def all_blocks(near):
    """The list of all blocks of two places or more: all ties between their places are theirs."""
    number = {}
    found = []
    for root in range(len(near)):
        if root not in number:
            found.extend(blocks_from(near, root, number))
    return found

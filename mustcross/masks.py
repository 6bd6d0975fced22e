"""Lots of numbered places as masks: bit k of a mask tells whether place k is in the lot."""

from mustcross.flows import row_to


def lowest(mask):
    """The least place of a lot that is not empty."""
    return (mask & -mask).bit_length() - 1


def members(mask):
    """The ascending list of the places of a lot."""
    found = []
    while mask:
        found.append(lowest(mask))
        mask = mask & (mask - 1)
    return found


def mask_of(places):
    """The lot of a list of places."""
    mask = 0
    for place in places:
        mask = mask | 1 << place
    return mask


def near_masks(near):
    """The masks of the neighbours, by the numbers that the places of a dict have in its order."""
    number = {place: index for index, place in enumerate(near)}
    return [mask_of([number[other] for other in near[place]]) for place in near]


def flooded(near, start, inside):
    """The lot that a lot comes to by places inside."""
    seen = start
    fresh = start
    while fresh:
        here = lowest(fresh)
        new = near[here] & inside & ~seen
        seen = seen | new
        fresh = fresh & (fresh - 1) | new
    return seen


def way_in(near, some, others, inside):
    """A shortest way from a place of some to one of others over places inside, None if there is none."""
    ahead = {place: None for place in members(some & inside)}
    row = list(ahead)
    left = inside & ~some
    at = 0
    while at < len(row):
        here = row[at]
        if others >> here & 1:
            return row_to(ahead, here)
        for place in members(near[here] & left):
            ahead[place] = here
            row.append(place)
        left = left & ~near[here]
        at += 1
    return None

"""Least ties that cannot be laid in the plane: five places all tied, or three and three, by ways."""

from mustcross.masks import members, near_masks
from mustcross.planar import is_plane

FIVE = "five"
THREE = "three"
MANY = {"five": 5, "three": 6}
STEPS = {"five": ((0, 1), (0, 2), (0, 3), (0, 4), (1, 2), (1, 3), (1, 4), (2, 3), (2, 4), (3, 4)),
         "three": ((0, 3), (0, 4), (0, 5), (1, 3), (1, 4), (1, 5), (2, 3), (2, 4), (2, 5))}


def ties_of_masks(near):
    """The list of all ties, the lesser place first."""
    return [(one, other) for one, mask in enumerate(near) for other in members(mask) if one < other]


def without_place(near, place):
    """The masks without the ties of a place."""
    return [0 if index == place else mask & ~(1 << place) for index, mask in enumerate(near)]


def without_tie(near, one, other):
    """The masks without a tie."""
    left = list(near)
    left[one] = left[one] & ~(1 << other)
    left[other] = left[other] & ~(1 << one)
    return left


def least_not_plane(near):
    """The masks of ties that cannot be laid in the plane, though without any one of them they can."""
    left = near
    for place in range(len(near)):
        smaller = without_place(left, place)
        if not is_plane(smaller):
            left = smaller
    for one, other in ties_of_masks(left):
        smaller = without_tie(left, one, other)
        if not is_plane(smaller):
            left = smaller
    return left


def ways_between(near, ends):
    """A dict from pairs of ends to the ways between them over places with two ties."""
    found = {}
    for start in ends:
        for place in members(near[start]):
            way = [start, place]
            while way[-1] not in ends:
                way.append(members(near[way[-1]] & ~(1 << way[-2]))[0])
            found[(start, way[-1])] = way
    return found


def in_two_halves(ends, found):
    """Six ends, first those that have no way to the first one."""
    half = [end for end in ends if (ends[0], end) not in found]
    return half + [end for end in ends if end not in half]


def told_bar(places, found):
    """A bar of these places, by a dict from pairs of them to ways."""
    kind = FIVE if len(places) == MANY[FIVE] else THREE
    return kind, places, [found[(places[one], places[other])] for one, other in STEPS[kind]]


def found_bar(near):
    """A bar of a dict of neighbours that cannot be laid in the plane."""
    names = sorted(near)
    least = least_not_plane(near_masks({name: near[name] for name in names}))
    ends = [place for place, mask in enumerate(least) if len(members(mask)) > 2]
    found = ways_between(least, ends)
    if len(ends) == MANY[THREE]:
        ends = in_two_halves(ends, found)
    ways = {(names[one], names[other]): [names[place] for place in way]
            for (one, other), way in found.items()}
    return told_bar([names[end] for end in ends], ways)

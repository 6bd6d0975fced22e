"""What bars a round through told places, on a dict from each place to the list of its neighbours."""

from itertools import combinations

from mustcross.flows import apart_up_to, come_to, near_without, nearest_parting
from mustcross.pieces import feet_of

BLANK = " "


def with_middles(near):
    """The dict with a place more on each tie; its name has a blank."""
    found = {place: [] for place in near}
    for one in near:
        for other in near[one]:
            if one < other:
                middle = one + BLANK + other
                found[middle] = [one, other]
                found[one].append(middle)
                found[other].append(middle)
    return found


def pair_bar(near, one, other):
    """A place or a tie that parts one place from another, as a bar, None if they are on a round."""
    split = with_middles(near)
    left = near_without(near_without(split, one), other)
    if len(apart_up_to(left, split[one], split[other], 2)) == 2:
        return None
    barred = nearest_parting(left, split[one], split[other])
    lot = sorted([place for place in come_to(split, [one], barred) if place in near])
    if barred and barred[0] in near:
        return "place", lot, barred[0]
    return "tie", lot


def without_all(near, gone):
    """The dict without some places."""
    return {place: [other for other in near[place] if other not in gone]
            for place in near if place not in gone}


def greatest_lot(near, place, told):
    """The greatest lot with a told place behind two places, the other told ones beyond, None if there is none."""
    others = [other for other in told if other != place]
    if any([other in near[place] for other in others]):
        return None
    left = without_all(near, told)
    goals = [step for step in left if any([other in near[step] for other in others])]
    barred = nearest_parting(left, goals, near[place])
    if len(barred) > 2:
        return None
    # What lies behind both places without the told one goes along with it: a round can do without.
    beyond = come_to(near, others, barred)
    return sorted([step for step in near if step not in beyond and step not in barred])


def drawn_to(near, place, lot):
    """The dict with a lot drawn together to one place of it."""
    around = feet_of(near, lot)
    left = without_all(near, [other for other in lot if other != place])
    left[place] = around
    for foot in around:
        left[foot] = sorted([other for other in left[foot] if other != place] + [place])
    return left


def in_halves(near, pairs):
    """Two lots without a tie between them, a pair's places in unlike ones, None if there are none."""
    side = {}
    both_ways = pairs + [pair[::-1] for pair in pairs]
    for pair in pairs:
        rows = [(pair[0], 0)]
        while rows:
            start, which = rows.pop()
            if start not in side:
                for place in come_to(near, [start], []):
                    side[place] = which
                for one, other in both_ways:
                    if side.get(one) == which:
                        rows.append((other, 1 - which))
    if any([side[one] == side[other] for one, other in pairs]):
        return None
    return ([place for place in near if side.get(place) != 1],
            [place for place in near if side.get(place) == 1])


def parted_core(near, told):
    """The lots P and Q of what is left when each told place has two neighbours, None if there are none."""
    pairs = [tuple(near[place]) for place in told]
    core = without_all(near, told)
    shared = [place for place in pairs[0] if place in pairs[1] and place in pairs[2]]
    if shared:
        return [shared[0]], [place for place in core if place != shared[0]]
    for one, other in pairs:
        core[one] = [place for place in core[one] if place != other]
        core[other] = [place for place in core[other] if place != one]
    return in_halves(core, pairs)


def lots_bar(near, told):
    """The bar of five lots for three told places of which each two are on a round, None if there is none."""
    left = near
    lots = []
    for place in told:
        lot = greatest_lot(left, place, told)
        if lot is None:
            return None
        lots.append(lot)
        left = drawn_to(left, place, lot)
    halves = parted_core(left, told)
    return None if halves is None else ("lots", [sorted(halves[0]), sorted(halves[1]), *lots])


def found_bar(near, told):
    """A bar of a round through two or three told places, None if there is none."""
    for one, other in combinations(told, 2):
        found = pair_bar(near, one, other)
        if found is not None:
            return found
    return lots_bar(near, told) if len(told) == 3 else None

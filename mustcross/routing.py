"""Ways led through a drawing, each as near as can be to a side of it without other told pins."""

from mustcross.crossing import alternate
from mustcross.stretches import stretch_of


def first_across(rim, pairs):
    """The indexes of the first two pairs that alternate on the rim, None if no two do."""
    for index, pair in enumerate(pairs):
        for at in range(index + 1, len(pairs)):
            if alternate(rim, pair, pairs[at]):
                return index, at
    return None


def turned_from(order, ahead):
    """A place's neighbours, clockwise from the one ahead on; all of them at a begin."""
    if ahead is None:
        return list(order)
    at = order.index(ahead)
    return order[at + 1:] + order[:at]


def nearest_way(orders, start, end, barred):
    """The way from a pin to another, nearest to the pins clockwise between them, None if there is none."""
    seen = {place: True for place in [*barred, start]}
    way = [start]
    left = [turned_from(orders[start], None)]
    while way:
        if not left[-1]:
            way.pop()
            left.pop()
        else:
            place = left[-1].pop(0)
            if place == end:
                return [*way, end]
            if place not in seen:
                seen[place] = True
                left.append(turned_from(orders[place], way[-1]))
                way.append(place)
    return None


def with_free_side(rim, pairs):
    """A pair with no pin of the others on one side, told from the pin on from which this side is clockwise."""
    told = [pin for pair in pairs for pin in pair]
    for one, other in pairs:
        for start, end in ((one, other), (other, one)):
            if len([pin for pin in stretch_of(rim, start, end) if pin in told]) == 2:
                return start, end
    return None


def routed(rim, orders, pairs):
    """Ways that join pairs of which no two alternate, no two with a common place, None if there are none."""
    left = [tuple(pair) for pair in pairs]
    found = {}
    gone = []
    while left:
        start, end = with_free_side(rim, left)
        barred = gone + [pin for pair in left for pin in pair if pin != end]
        way = nearest_way(orders, start, end, barred)
        if way is None:
            return None
        left = [pair for pair in left if start not in pair]
        gone.extend(way)
        found[(start, end)] = way
        found[(end, start)] = way[::-1]
    return [found[tuple(pair)] for pair in pairs]

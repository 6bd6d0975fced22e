"""Boards put side by side, with a stretch of both rims in common."""

from mustcross.boards import Board
from mustcross.checks import need_board
from mustcross.crosses import is_cross
from mustcross.crossing import is_crossed, told_ways
from mustcross.errors import BadCross, NotBeside
from mustcross.flows import most_apart, nearest_parting
from mustcross.stretches import pins_outside, stretch_of


def row_on_rim(rim, places):
    """Some pins as they stand on the rim, None if other pins stand between them, or if they are none or all."""
    firsts = [pin for index, pin in enumerate(rim) if pin in places and rim[index - 1] not in places]
    if len(firsts) != 1:
        return None
    lasts = [pin for index, pin in enumerate(rim) if pin not in places and rim[index - 1] in places]
    stretch = stretch_of(rim, firsts[0], lasts[0])
    return stretch[:-1]


def stretch_in_common(one, other):
    """The places that two boards have in common, in the one's order, None if these are not beside one another."""
    common = [place for place in one.places() if other.has_place(place)]
    ours = one.rim()
    theirs = other.rim()
    if not all([place in ours and place in theirs for place in common]):
        return None
    stretch = row_on_rim(ours, common)
    if stretch is None or row_on_rim(theirs, common) != stretch[::-1]:
        return None
    return stretch


def need_beside(one, other):
    """The stretch in common; BadBoard of one, of other, NotBeside."""
    need_board(one)
    need_board(other)
    stretch = stretch_in_common(one, other)
    if stretch is None:
        raise NotBeside()
    return stretch


def common_stretch(one, other):
    """The places in common as they stand on the one's rim, None if the boards are not beside one another."""
    need_board(one)
    need_board(other)
    return stretch_in_common(one, other)


def rim_behind(rim, stretch):
    """The pins but those of a stretch, as they stand behind it."""
    at = rim.index(stretch[-1]) + 1
    return [pin for pin in rim[at:] + rim[:at] if pin not in stretch]


def all_ties(one, other):
    """The ascending list of the ties of both boards."""
    return sorted(set(one.ties() + other.ties()))


def beside(one, other):
    """The whole of two boards that are beside one another."""
    stretch = need_beside(one, other)
    places = [place for place in other.places() if place not in stretch]
    rim = rim_behind(one.rim(), stretch) + rim_behind(other.rim(), stretch[::-1])
    return Board(one.places() + places, all_ties(one, other), rim)


def on_from(one, stretch):
    """A way of the one from each place of a stretch to a pin outside it, None if there are none."""
    ways = most_apart(one.near(), stretch, pins_outside(one.rim(), stretch))
    if len(ways) < len(stretch):
        return None
    by_begin = {way[0]: way for way in ways}
    return [by_begin[place] for place in stretch]


def ways_on(one, other):
    """A way of the one from each place of the stretch to another pin, None if there are none."""
    return on_from(one, need_beside(one, other))


def held_back(one, other):
    """Fewer places than the stretch has that meet all ways of the one from it to other pins, else None."""
    stretch = need_beside(one, other)
    if on_from(one, stretch) is not None:
        return None
    return nearest_parting(one.near(), stretch, pins_outside(one.rim(), stretch))


def with_end_led_on(way, on):
    """A way with the way on behind its last place if it has one, by a dict from places to their ways on."""
    return [*way, *on[way[-1]][1:]] if way[-1] in on else list(way)


def led_on(one, other, cross):
    """A cross of the other as one of the whole, None if the one has a cross or there are no ways on."""
    stretch = need_beside(one, other)
    if not is_cross(other, cross):
        raise BadCross(cross)
    ways = on_from(one, stretch)
    if ways is None or is_crossed(one):
        return None
    on = {way[0]: way for way in ways}
    return told_ways([with_end_led_on(with_end_led_on(way, on)[::-1], on) for way in cross])

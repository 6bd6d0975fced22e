"""Ways that cross: whether there are any, and how they are found."""

from mustcross.boards import Board
from mustcross.closed import is_drawable
from mustcross.folding import fold_row
from mustcross.ledways import led_out_of_row
from mustcross.masks import mask_of, near_masks, way_in


def alternate(rim, one, other):
    """Whether the two pins of one stand between those of other, all four unlike."""
    low, high = sorted([rim.index(pin) for pin in one])
    return sum([low < rim.index(pin) < high for pin in other]) == 1


def part_to_pins(rim, way, ends):
    """The part of a way without inner pins whose ends alternate with two other pins."""
    low, high = sorted([rim.index(pin) for pin in ends])
    stops = [index for index, place in enumerate(way) if place in rim]
    for one, other in zip(stops, stops[1:]):
        if (low < rim.index(way[one]) < high) != (low < rim.index(way[other]) < high):
            return list(way[one:other + 1])
    return list(way)


def cut_at_pins(rim, ways):
    """The ways of a cross, cut so that they have pins at their ends alone."""
    one = part_to_pins(rim, ways[0], (ways[1][0], ways[1][-1]))
    return one, part_to_pins(rim, ways[1], (one[0], one[-1]))


def told_way(way):
    """A way, from its lesser end on."""
    return list(way) if way[0] < way[-1] else list(way)[::-1]


def told_ways(ways):
    """The ways of a cross as they are told: the one with the least of the four ends first."""
    one, other = sorted([told_way(way) for way in ways])
    return one, other


def is_crossed(board):
    """Whether a board has a cross."""
    return len(board.rim()) > 3 and not is_drawable(fold_row(board)[0])


def straight_cross(board):
    """Ways that cross, the one as short as can be between its ends, None if none is found so."""
    places = board.places()
    near = near_masks(board.near())
    pins = [places.index(pin) for pin in board.rim()]
    rim = mask_of(pins)
    everyone = (1 << len(places)) - 1
    for index, pin in enumerate(pins):
        for at in range(index + 2, len(pins)):
            ends = mask_of([pin, pins[at]])
            one = way_in(near, 1 << pin, 1 << pins[at], everyone & ~rim | ends)
            if one is not None:
                left = everyone & ~mask_of(one)
                between = mask_of(pins[index + 1:at])
                other = way_in(near, between, rim & ~between & ~ends, left)
                if other is not None:
                    return [places[place] for place in one], [places[place] for place in other]
    return None


def off_rim(board, pin):
    """The board with a pin that is none any more."""
    return Board(board.places(), board.ties(), [other for other in board.rim() if other != pin])


def with_four_pins(board):
    """A board that has a cross with four of its pins alone, and still one."""
    left = board
    for pin in board.rim():
        smaller = off_rim(left, pin)
        if is_crossed(smaller):
            left = smaller
    return left


def without_part(board, part):
    """The board without a place, or without a tie."""
    places = [place for place in board.places() if place != part]
    ties = [tie for tie in board.ties() if tie != part and part not in tie]
    return Board(places, ties, [pin for pin in board.rim() if pin != part])


def found_by_thinning(board):
    """Ways that cross on a board that has a cross."""
    left = with_four_pins(board)
    ways = straight_cross(left)
    # What cannot go now cannot go later: so one round leaves just the steps of a cross.
    for part in [*left.places(), *left.ties()]:
        if ways is not None:
            return ways
        smaller = without_part(left, part)
        if is_crossed(smaller):
            left = smaller
            ways = straight_cross(left)
    return ways


def crossing_ways(board):
    """The ways of a cross as they are told, with pins at their ends alone, None if there is none."""
    if len(board.rim()) < 4:
        return None
    left, row = fold_row(board)
    if is_drawable(left):
        return None
    ways = straight_cross(left)
    if ways is None:
        ways = found_by_thinning(left)
    ways = led_out_of_row(board, row, ways)
    return told_ways(cut_at_pins(board.rim(), ways))

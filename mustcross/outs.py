"""The ways from an inner place out to the pins, and what bars them."""

from mustcross.flows import apart_up_to, come_to, near_without, nearest_parting

MOST_FEET = 3


def ways_to_pins(board, place, most):
    """Ways from a place to pins, as many as can be, but at most so many, ascending."""
    near = near_without(board.near(), place)
    return [[place, *way] for way in apart_up_to(near, board.ties_of(place), board.rim(), most)]


def least_piece_of(board, place):
    """What a place comes to without the nearest of the least lots that part it from the pins."""
    near = board.near()
    barred = nearest_parting(near_without(near, place), board.ties_of(place), board.rim())
    return sorted(come_to(near, [place], barred))


def greatest_piece_of(board, place):
    """What a place comes to without the farthest of the least lots that part it from the pins."""
    near = board.near()
    barred = nearest_parting(near_without(near, place), board.rim(), board.ties_of(place))
    return sorted(come_to(near, [place], barred))

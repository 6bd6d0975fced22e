"""What a board needs for its cross, and the fewest ties that one without would need."""

from itertools import combinations

from mustcross.changed import untied_pairs, with_ties
from mustcross.checks import need_board
from mustcross.crosses import cross
from mustcross.crossing import is_crossed, without_part
from mustcross.errors import NoCross
from mustcross.names import told_pair


def need_cross(board):
    """A cross of the board; NoCross for one that has none."""
    ways = cross(board)
    if ways is None:
        raise NoCross()
    return ways


def needed_of(board, parts):
    """The ascending list of those of some places or ties without which there is no cross."""
    return sorted([part for part in parts if not is_crossed(without_part(board, part))])


def needed_ties(board):
    """The ascending list of the ties without each of which the board has no cross."""
    ways = need_cross(board)
    # Each cross goes over all of them, so those of one are all that may be needed.
    return needed_of(board, [told_pair(step) for way in ways for step in zip(way, way[1:])])


def needed_places(board):
    """The ascending list of the places but pins without each of which the board has no cross."""
    ways = need_cross(board)
    pins = board.rim()
    return needed_of(board, [place for way in ways for place in way if place not in pins])


def first_new(board, pairs, many):
    """The first list of so many of the pairs whose ties give the board a cross, None if there is none."""
    for row in combinations(pairs, many):
        if is_crossed(with_ties(board, row)):
            return list(row)
    return None


def least_new(board):
    """The first shortest list of pairs whose ties give the board a cross, None if none can."""
    need_board(board)
    if is_crossed(board):
        return []
    if len(board.rim()) < 4:
        return None
    pairs = untied_pairs(board)
    one = first_new(board, pairs, 1)
    # Of any four pins two ties cross.
    return first_new(board, pairs, 2) if one is None else one

"""Boards with a tie or a place more or fewer, and the ties that begin a cross."""

from itertools import combinations

from mustcross.boards import Board
from mustcross.checks import need_board, need_place, need_tie, need_two_places
from mustcross.crosses import need_no_cross
from mustcross.crossing import crossing_ways, is_crossed, without_part
from mustcross.errors import BothPins, HasTie
from mustcross.names import told_pair


def need_no_tie(board, one, other):
    """HasTie of two places that are tied, or one and the same."""
    if one == other or other in board.ties_of(one):
        raise HasTie(one, other)


def with_ties(board, ties):
    """The board with ties more, none of which it has."""
    return Board(board.places(), [*board.ties(), *ties], board.rim())


def untied_pairs(board):
    """The ascending list of the pairs of places that are not tied."""
    near = board.near()
    places = board.places()
    return [(one, other) for one, other in combinations(places, 2) if other not in near[one]]


def with_tie(board, one, other):
    """The board with a tie more."""
    need_two_places(board, one, other)
    need_no_tie(board, one, other)
    return with_ties(board, [(one, other)])


def without_tie(board, one, other):
    """The board with a tie fewer."""
    need_two_places(board, one, other)
    need_tie(board, one, other)
    return without_part(board, told_pair((one, other)))


def without(board, place):
    """The board without a place and its ties."""
    need_board(board)
    need_place(board, place)
    return without_part(board, place)


def drawn_together(board, one, other):
    """The board in which two tied places are one."""
    need_two_places(board, one, other)
    need_tie(board, one, other)
    rim = board.rim()
    if one in rim and other in rim:
        raise BothPins(one, other)
    kept, gone = told_pair((one, other))
    if gone in rim:
        kept, gone = gone, kept
    known = board.ties_of(kept)
    fresh = [place for place in board.ties_of(gone) if place != kept and place not in known]
    return with_ties(without_part(board, gone), [(kept, place) for place in fresh])


def begins(board, one, other):
    """A cross that a tie more begins, None if it begins none."""
    need_no_cross(board)
    return crossing_ways(with_tie(board, one, other))


def let_ties(board):
    """The ascending list of the pairs of places that are not tied and begin no cross."""
    need_no_cross(board)
    return [pair for pair in untied_pairs(board) if not is_crossed(with_ties(board, [pair]))]

"""A board put within another one, in the place of one of its places."""

from mustcross.boards import Board
from mustcross.checks import need_board, need_inner_place
from mustcross.errors import NotWithin


def within(board, place, other):
    """The board without a place, with all places and ties of the other board."""
    need_board(board)
    need_inner_place(board, place)
    need_board(other)
    around = board.ties_of(place)
    common = [one for one in other.places() if board.has_place(one)]
    if common != around or sorted(other.rim()) != around:
        raise NotWithin()
    places = [one for one in board.places() if one != place and one not in common]
    ties = [tie for tie in board.ties() if place not in tie]
    return Board(places + other.places(), sorted(set(ties + other.ties())), board.rim())

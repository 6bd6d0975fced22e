"""The errors of parameters that many functions have."""

from mustcross.boards import Board
from mustcross.errors import BadBoard, BadLot, BadNumber, IsPin, NoPlace, NoTie
from mustcross.names import first_unknown, is_number


def need_board(board):
    """BadBoard for what is no Board."""
    if not isinstance(board, Board):
        raise BadBoard(board)


def need_place(board, place):
    """NoPlace for what is no place of the board."""
    if not board.has_place(place):
        raise NoPlace(place)


def need_two_places(board, one, other):
    """BadBoard for what is no Board, NoPlace for one, then other, that is no place of it."""
    need_board(board)
    need_place(board, one)
    need_place(board, other)


def need_tie(board, one, other):
    """NoTie of two places that are not tied."""
    if other not in board.ties_of(one):
        raise NoTie(one, other)


def need_inner_place(board, place):
    """NoPlace for what is no place of the board, IsPin for a pin."""
    need_place(board, place)
    if place in board.rim():
        raise IsPin(place)


def need_lot(lot, known):
    """BadLot for the first thing in a lot that is not known, or stood before."""
    index = first_unknown(lot, known)
    if index is not None:
        raise BadLot(index)


def need_lots(board, some, others):
    """BadLot for the first thing that makes some, or else others, no lot of the board."""
    known = board.places()
    need_lot(some, known)
    need_lot(others, known)


def need_number(number):
    """BadNumber for what is no number."""
    if not is_number(number):
        raise BadNumber(number)

"""The least and the greatest of the pieces that have a place and the fewest feet."""

from mustcross.outs import greatest_piece_of, least_piece_of
from mustcross.pieces import least_feet


def least_piece(board, place):
    """The piece that lies within all with a place and least feet, None if there is none."""
    if least_feet(board, place) is None:
        return None
    return least_piece_of(board, place)


def greatest_piece(board, place):
    """The piece that has all with a place and least feet within it, None if there is none."""
    if least_feet(board, place) is None:
        return None
    return greatest_piece_of(board, place)

"""Crosses of boards."""

from mustcross.apart import first_that_meets
from mustcross.checks import need_board
from mustcross.crossing import alternate, crossing_ways
from mustcross.errors import HasCross
from mustcross.names import is_pair
from mustcross.ways import way_fault


def cross(board):
    """A cross of a board, as a pair of lists, None if there is none."""
    need_board(board)
    return crossing_ways(board)


def need_no_cross(board):
    """BadBoard for what is no Board, HasCross with a cross for one that has a cross."""
    ways = cross(board)
    if ways is not None:
        raise HasCross(ways)


def is_cross(board, thing):
    """Whether any object is a cross of the board, either way first, each either way about."""
    need_board(board)
    if not is_pair(thing) or not all([way_fault(board, way) is None for way in thing]):
        return False
    if first_that_meets(thing) is not None:
        return False
    rim = board.rim()
    # A way of one place has no pin between its ends, so it alternates with none.
    one, other = [(way[0], way[-1]) for way in thing]
    return all([pin in rim for pin in [*one, *other]]) and alternate(rim, one, other)

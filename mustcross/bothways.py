"""Whether a board has a cross, and the least ties that keep one."""

from mustcross.boards import Board
from mustcross.checks import need_board
from mustcross.crossing import crossing_ways, is_crossed


def has_cross(board):
    """Whether a board has a cross."""
    need_board(board)
    return is_crossed(board)


def thinned_to_cross(board):
    """The board with the steps of a cross for its ties alone, None if it has no cross."""
    need_board(board)
    ways = crossing_ways(board)
    if ways is None:
        return None
    # Its ways have pins at their ends alone, so without any one step no cross is left.
    steps = [step for way in ways for step in zip(way, way[1:])]
    return Board(board.places(), steps, board.rim())

"""Pictures: pieces folded away, one behind another, and a drawing of what is left."""

from mustcross.checks import need_board
from mustcross.closed import drawn
from mustcross.drawings import drawing_fault
from mustcross.folding import fold_row, without_piece
from mustcross.names import first_unknown, is_list, is_pair
from mustcross.pieces import feet, is_piece


def picture(board):
    """A picture of a board, None if there is none."""
    need_board(board)
    left, folds = fold_row(board)
    orders = drawn(left)
    return None if orders is None else (folds, orders)


def is_picture_form(thing):
    """Whether any object is a list of two things, the first a list of lists of two lists."""
    if not is_pair(thing) or not is_list(thing[0]):
        return False
    return all([is_pair(fold) and is_list(fold[0]) and is_list(fold[1]) for fold in thing[0]])


def is_fold(board, lot, around):
    """Whether a lot is a piece of a board, and around is just its feet, each once."""
    if not is_piece(board, lot) or first_unknown(around, board.places()) is not None:
        return False
    return sorted(around) == feet(board, lot)


def picture_fault(board, thing):
    """Why any object is no picture of the board, None if it is one."""
    need_board(board)
    if not is_picture_form(thing):
        return ("form",)
    left = board
    for index, (lot, around) in enumerate(thing[0]):
        if not is_fold(left, lot, around):
            return ("fold", index)
        left = without_piece(left, lot, sorted(around))
    return drawing_fault(left, thing[1])


def is_picture(board, thing):
    """Whether any object is a picture of the board."""
    return picture_fault(board, thing) is None

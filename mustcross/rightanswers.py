"""The answers that are due for a notice, and which are right."""

from mustcross.answers import told_cross, told_picture
from mustcross.crosses import cross, is_cross
from mustcross.names import is_list
from mustcross.pictures import is_picture, picture
from mustcross.twos import board_of_two


def due_boards(notice):
    """The boards of which a cross or a picture is due: the notice's own, then each wish's with its four as the rim."""
    board = notice.board()
    return [board, *[board_of_two(board, one, two) for one, two in notice.wishes()]]


def right_answer(board):
    """A right answer for a board."""
    ways = cross(board)
    if ways is not None:
        return told_cross(ways[0], ways[1])
    folds, orders = picture(board)
    return told_picture(folds, orders)


def is_right_answer(board, thing):
    """Whether any object is a right answer for a board."""
    if not is_list(thing) or len(thing) != 3:
        return False
    if thing[0] == "cross":
        return is_cross(board, thing[1:])
    return thing[0] == "picture" and is_picture(board, thing[1:])

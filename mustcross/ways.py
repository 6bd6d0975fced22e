"""Ways of a board."""

from mustcross.checks import need_board
from mustcross.names import is_list


def way_fault(board, thing):
    """Why any object is no way of the board, None if it is one."""
    need_board(board)
    if not is_list(thing) or not thing:
        return ("form",)
    if not all([board.has_place(place) for place in thing]):
        return ("form",)
    for index, place in enumerate(thing):
        if place in thing[:index]:
            return ("again", index)
    for index in range(1, len(thing)):
        if thing[index] not in board.ties_of(thing[index - 1]):
            return ("no tie", index)
    return None

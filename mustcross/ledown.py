"""Boards led down, step by step, to two ties that cross."""

from mustcross.changed import drawn_together
from mustcross.checks import need_board
from mustcross.crossing import crossing_ways, is_crossed, without_part
from mustcross.names import is_list, told_pair

FEWEST_PINS = 4


def led_down(board):
    """Steps that lead to a board of just two ties that cross, None if there are none."""
    need_board(board)
    ways = crossing_ways(board)
    if ways is None:
        return None
    used = [*ways[0], *ways[1]]
    gone = [place for place in board.places() if place not in used]
    kept = [told_pair(step) for way in ways for step in zip(way, way[1:])]
    cut = [(one, other) for one, other in board.ties()
           if one in used and other in used and (one, other) not in kept]
    # No way has a pin inside, so each can be drawn together into its first pin.
    drawn = [told_pair((way[0], place)) for way in ways for place in way[1:-1]]
    return ([("place", place) for place in gone] + [("tie", one, other) for one, other in cut]
            + [("draw", one, other) for one, other in drawn])


def is_tied(board, one, other):
    """Whether two objects are places of a board that are tied."""
    return board.has_place(one) and other in board.ties_of(one)


def behind_step(board, thing):
    """The board behind a step, None if any object is none that can be done."""
    if not is_list(thing) or len(thing) not in (2, 3):
        return None
    if len(thing) == 2:
        word, place = thing
        return without_part(board, place) if word == "place" and board.has_place(place) else None
    word, one, other = thing
    if not is_tied(board, one, other):
        return None
    if word == "tie":
        return without_part(board, told_pair((one, other)))
    pins = board.rim()
    if word == "draw" and (one not in pins or other not in pins):
        return drawn_together(board, one, other)
    return None


def is_led_to(board):
    """Whether a board is just two ties between four pins, and they cross."""
    return len(board.places()) == FEWEST_PINS and len(board.ties()) == 2 and is_crossed(board)


def is_led_down(board, thing):
    """Whether any object is a list of steps that lead to just two ties that cross."""
    need_board(board)
    if not is_list(thing):
        return False
    left = board
    for step in thing:
        left = behind_step(left, step)
        if left is None:
            return False
    return is_led_to(left)

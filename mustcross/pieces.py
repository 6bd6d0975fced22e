"""Pieces, and few feet or ways out."""

from mustcross.checks import need_board, need_inner_place, need_number
from mustcross.errors import BadPlaces
from mustcross.flows import come_to
from mustcross.names import first_unknown
from mustcross.outs import MOST_FEET, least_piece_of, ways_to_pins


def feet_of(near, places):
    """The ascending list of the places that are tied to some of a list and not in it."""
    return sorted([place for place in near if place not in places
                   and any([other in places for other in near[place]])])


def feet(board, places):
    """The ascending list of all places that are tied to some of a list and not in it."""
    need_board(board)
    near = board.near()
    index = first_unknown(places, near)
    if index is not None:
        raise BadPlaces(index)
    return feet_of(near, places)


def hangs_together(near, places):
    """Whether a list of places, one at least, hangs together by its own ties."""
    barred = [place for place in near if place not in places]
    return len(come_to(near, [places[0]], barred)) == len(places)


def is_piece(board, thing):
    """Whether any object is a piece of the board, in whatever order."""
    need_board(board)
    near = board.near()
    if first_unknown(thing, near) is not None or not thing:
        return False
    if any([place in thing for place in board.rim()]):
        return False
    return hangs_together(near, thing) and len(feet_of(near, thing)) <= MOST_FEET


def least_feet(board, place):
    """The least number of feet of a piece that has a place, None if there is none."""
    need_board(board)
    need_inner_place(board, place)
    ways = ways_to_pins(board, place, MOST_FEET + 1)
    return None if len(ways) > MOST_FEET else len(ways)


def piece_with(board, place, number):
    """A piece that has a place, with at most so many feet, None if there is none."""
    need_board(board)
    need_inner_place(board, place)
    need_number(number)
    many = least_feet(board, place)
    if many is None or many > number:
        return None
    return least_piece_of(board, place)


def ways_out(board, place, number):
    """So many ways from a place to pins, with no other place in common, None if there are fewer."""
    need_board(board)
    need_inner_place(board, place)
    need_number(number)
    ways = ways_to_pins(board, place, number)
    return None if len(ways) < number else ways

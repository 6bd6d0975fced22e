"""Fans from a place to others."""

from mustcross.checks import need_board, need_lot, need_place
from mustcross.flows import most_apart, near_without, nearest_parting


def near_around(board, place, others):
    """The neighbours of the places without this one; others is a lot of them."""
    need_board(board)
    need_place(board, place)
    near = near_without(board.near(), place)
    need_lot(others, near)
    return near


def fan(board, place, others):
    """A fan from a place to others of as many ways as can be, ascending."""
    near = near_around(board, place, others)
    return [[place, *way] for way in most_apart(near, board.ties_of(place), others)]


def fan_parting(board, place, others):
    """The least lot that parts a place from others, nearest to it, ascending."""
    near = near_around(board, place, others)
    return nearest_parting(near, board.ties_of(place), others)

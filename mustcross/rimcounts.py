"""How many ways lead out of stretches of the rim, and what parts these."""

from mustcross.checks import need_board
from mustcross.flows import most_apart, nearest_parting
from mustcross.stretches import need_stretch, pins_outside, stretch_of


def count(board, first, last):
    """How many ways, no two with a common place, lead from pins of a stretch to other pins."""
    need_board(board)
    rim = board.rim()
    need_stretch(rim, first, last)
    return count_out(board.near(), rim, stretch_of(rim, first, last))


def count_out(near, rim, stretch):
    """How many ways lead from a stretch to the pins outside it."""
    return len(most_apart(near, stretch, pins_outside(rim, stretch)))


def least_lot(board, first, last):
    """A lot of as few places as can be that parts a stretch."""
    need_board(board)
    rim = board.rim()
    need_stretch(rim, first, last)
    stretch = stretch_of(rim, first, last)
    return nearest_parting(board.near(), stretch, pins_outside(rim, stretch))


def counts(board):
    """The board's table: for each pin the counts of the stretches of one, two and more pins from it on."""
    need_board(board)
    near = board.near()
    rim = board.rim()
    many = len(rim)
    doubled = rim + rim
    table = [[0] * (many - 1) for _ in rim]
    # What a stretch counts, the other pins count, too.
    for at in range(many):
        for long in range(1, many // 2 + 1):
            number = count_out(near, rim, doubled[at:at + long])
            table[at][long - 1] = number
            table[(at + long) % many][many - long - 1] = number
    return table

"""Full boards: without a cross, and each tie more would begin one."""

from mustcross.changed import untied_pairs, with_ties
from mustcross.checks import need_board, need_number
from mustcross.crosses import need_no_cross
from mustcross.crossing import is_crossed


def filled(board):
    """A full board with the same places and rim that has all the ties of a board."""
    need_no_cross(board)
    left = board
    # A tie that begins a cross begins one, too, when there are more ties: so one round does.
    for pair in untied_pairs(board):
        greater = with_ties(left, [pair])
        if not is_crossed(greater):
            left = greater
    return left


def is_full(board):
    """Whether a board has no cross and no tie more can be let."""
    need_board(board)
    if is_crossed(board):
        return False
    for pair in untied_pairs(board):
        if not is_crossed(with_ties(board, [pair])):
            return False
    return True


def most_ties(pins, others):
    """How many ties a board with so many pins and other places can have without a cross."""
    need_number(pins)
    need_number(others)
    if pins < 3:
        return (pins + others) * (pins + others - 1) // 2
    return others * (others - 1) // 2 + 3 * others + 2 * pins - 3

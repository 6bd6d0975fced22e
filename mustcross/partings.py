"""Least partings of some places from others."""

from mustcross.checks import need_board, need_lots, need_place
from mustcross.errors import BadNumber
from mustcross.flows import is_parted, most_apart, near_without, nearest_parting
from mustcross.names import first_unknown, is_number


def parting(board, some, others):
    """The least parting nearest to some, ascending."""
    need_board(board)
    need_lots(board, some, others)
    return nearest_parting(board.near(), some, others)


def is_parting(board, some, others, thing):
    """Whether any object is a parting of some from others."""
    need_board(board)
    need_lots(board, some, others)
    near = board.near()
    return first_unknown(thing, near) is None and is_parted(near, some, others, thing)


def least_partings(near, some, others):
    """The list of all least partings, ascending."""
    # A least parting has just one place of each of as many ways as can be.
    rows = [[]]
    for way in most_apart(near, some, others):
        rows = [[*row, place] for row in rows for place in way]
    return sorted([sorted(row) for row in rows if is_parted(near, some, others, row)])


def count_partings(board, some, others):
    """How many least partings there are."""
    need_board(board)
    need_lots(board, some, others)
    return len(least_partings(board.near(), some, others))


def parting_at(board, some, others, number):
    """The least parting with an index among all of them, ascending."""
    need_board(board)
    need_lots(board, some, others)
    rows = least_partings(board.near(), some, others)
    if not is_number(number) or number >= len(rows):
        raise BadNumber(number)
    return rows[number]


def parts_how(board, some, others, place):
    """Whether "all" least partings have a place, "none" of them, or "some"."""
    need_board(board)
    need_lots(board, some, others)
    need_place(board, place)
    near = board.near()
    # What the nearest and the farthest one have, all between them have.
    if place in nearest_parting(near, some, others) and place in nearest_parting(near, others, some):
        return "all"
    left = most_apart(near_without(near, place), [one for one in some if one != place],
                      [other for other in others if other != place])
    if len(left) == len(most_apart(near, some, others)):
        return "none"
    return "some"

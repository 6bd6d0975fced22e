"""Ways apart from some places to others, as many as can be."""

from mustcross.checks import need_board, need_lots
from mustcross.errors import BadWays
from mustcross.flows import most_apart, one_way_more
from mustcross.names import is_list
from mustcross.ways import way_fault


def ways_apart(board, some, others):
    """Ways apart from some to others, as many as can be, ascending."""
    need_board(board)
    need_lots(board, some, others)
    return most_apart(board.near(), some, others)


def first_that_meets(ways):
    """The index of the first way that has a place of one ahead of it, else None."""
    seen = {}
    for index, way in enumerate(ways):
        if any([place in seen for place in way]):
            return index
        for place in way:
            seen[place] = True
    return None


def apart_fault(board, some, others, thing):
    """Why any object is no list of ways apart from some to others, None if it is one."""
    need_board(board)
    need_lots(board, some, others)
    if not is_list(thing):
        return ("form",)
    for index, way in enumerate(thing):
        if way_fault(board, way) is not None:
            return ("way", index)
    for index, way in enumerate(thing):
        if way[0] not in some:
            return ("begins", index)
    for index, way in enumerate(thing):
        if way[-1] not in others:
            return ("ends", index)
    index = first_that_meets(thing)
    return None if index is None else ("meets", index)


def one_more(board, some, others, ways):
    """Ways apart, one more than passed, ascending, None if these are as many as can be."""
    if apart_fault(board, some, others, ways) is not None:
        raise BadWays(ways)
    return one_way_more(board.near(), some, others, ways)

"""Rounds through told places, and what bars them."""

from mustcross.checks import need_board
from mustcross.errors import BadTold
from mustcross.flows import near_without
from mustcross.names import first_unknown, is_list
from mustcross.roundbars import found_bar
from mustcross.ways import way_fault

FEWEST_TOLD = 2
MOST_TOLD = 3


def need_told_of(known, told, fewest, most):
    """BadTold for the first thing that is not known or stood before, or for too few or too many of them."""
    index = first_unknown(told, known)
    if index is not None:
        raise BadTold(index)
    if len(told) < fewest:
        raise BadTold(len(told))
    if len(told) > most:
        raise BadTold(most)


def need_told(board, told):
    """BadBoard for what is no Board, BadTold for what are no two or three told places."""
    need_board(board)
    need_told_of(board.places(), told, FEWEST_TOLD, MOST_TOLD)


def is_round(board, thing):
    """Whether any object is a round of the board."""
    return way_fault(board, thing) is None and len(thing) > 2 and thing[0] in board.ties_of(thing[-1])


def cut_tie(near, one, other):
    """The dict without a tie."""
    left = {place: list(near[place]) for place in near}
    left[one].remove(other)
    left[other].remove(one)
    return left


def thinned_to_round(near, told):
    """The dict with the places and ties of one round through told places, where there is such a round."""
    left = near
    for place in near:
        if place not in told:
            smaller = near_without(left, place)
            if found_bar(smaller, told) is None:
                left = smaller
    ties = [(one, other) for one in left for other in left[one] if one < other]
    for one, other in ties:
        smaller = cut_tie(left, one, other)
        if found_bar(smaller, told) is None:
            left = smaller
    return left


def walked_round(near, start):
    """The round on which a place is, where each place has two neighbours."""
    found = [start]
    place = near[start][0]
    while place != start:
        ahead = found[-1]
        found.append(place)
        place = [other for other in near[place] if other != ahead][0]
    return found


def round_through(board, told):
    """A round that has all told places, None if there is none."""
    need_told(board, told)
    near = board.near()
    if found_bar(near, told) is not None:
        return None
    return walked_round(thinned_to_round(near, told), told[0])


def round_bar(board, told):
    """What bars a round through told places, None if there is one."""
    need_told(board, told)
    return found_bar(board.near(), told)


def parts_told(told, lot, place):
    """Whether a told place is in a lot, and another one neither in it nor this place."""
    return (any([one in lot for one in told])
            and any([one not in lot and one != place for one in told]))


def ties_out(near, lot):
    """The list of the places outside a lot, one for each tie that leads there from it."""
    return [other for place in lot for other in near[place] if other not in lot]


def is_place_bar(near, told, lot, place):
    """Whether two objects are a lot and a place to which alone ties lead from it, that part told places."""
    if first_unknown(lot, near) is not None or first_unknown([place], near) is not None:
        return False
    return (place not in lot and parts_told(told, lot, place)
            and all([other == place for other in ties_out(near, lot)]))


def is_tie_bar(near, told, lot):
    """Whether any object is a lot from which one tie leads at most, that parts told places."""
    return first_unknown(lot, near) is None and parts_told(told, lot, None) and len(ties_out(near, lot)) < 2


def is_partition(near, lots):
    """Whether any object is a list of five lists in which each place is just once."""
    if not is_list(lots) or len(lots) != 5 or not all([is_list(lot) for lot in lots]):
        return False
    places = [place for lot in lots for place in lot]
    return first_unknown(places, near) is None and len(places) == len(near)


def is_lots_bar(near, told, lots):
    """Whether any object is a list of the five lots that bar a round through three told places."""
    if len(told) != 3 or not is_partition(near, lots) or not lots[0] or not lots[1]:
        return False
    if not all([place in lot for place, lot in zip(told, lots[2:])]):
        return False
    footings = []
    for lot in lots[2:]:
        out = ties_out(near, lot)
        footing = [[place for place in half if place in out] for half in lots[:2]]
        beyond = [place for place in out if place not in lots[0] and place not in lots[1]]
        if beyond or len(footing[0]) > 1 or len(footing[1]) > 1:
            return False
        footings.append(footing)
    if len(lots[0]) == 1 or len(lots[1]) == 1:
        return True
    between = [(one, other) for one in lots[0] for other in near[one] if other in lots[1]]
    return all([[[one], [other]] in footings for one, other in between])


def is_round_bar(board, told, thing):
    """Whether any object bars a round through told places."""
    need_told(board, told)
    if not is_list(thing) or not thing:
        return False
    near = board.near()
    if thing[0] == "place" and len(thing) == 3:
        return is_place_bar(near, told, thing[1], thing[2])
    if thing[0] == "tie" and len(thing) == 2:
        return is_tie_bar(near, told, thing[1])
    return thing[0] == "lots" and len(thing) == 2 and is_lots_bar(near, told, thing[1])

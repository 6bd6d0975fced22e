"""What bars a drawing: five places all tied, or three and three, by ways in the closed board."""

from mustcross.barring import MANY, STEPS, found_bar, told_bar
from mustcross.checks import need_board
from mustcross.closed import closed_near, is_drawable
from mustcross.crosses import is_cross
from mustcross.crossing import cut_at_pins
from mustcross.errors import BadCross
from mustcross.names import first_unknown, is_list
from mustcross.stretches import stretch_of
from mustcross.walks import OUTSIDE


def bar(board):
    """What bars a drawing of the board, None if there is a drawing."""
    need_board(board)
    return None if is_drawable(board) else found_bar(closed_near(board))


def is_bar_form(near, thing):
    """Whether any object is a triple of a kind, unlike places, and so many ways, whatever they are."""
    if not is_list(thing) or len(thing) != 3 or not isinstance(thing[0], str) or thing[0] not in STEPS:
        return False
    if first_unknown(thing[1], near) is not None or not is_list(thing[2]):
        return False
    return len(thing[1]) == MANY[thing[0]] and len(thing[2]) == len(STEPS[thing[0]])


def leads(near, thing, one, other):
    """Whether any object is a list of unlike places, neighbours tied, from one place to another."""
    if first_unknown(thing, near) is not None or not thing:
        return False
    if thing[0] != one or thing[-1] != other:
        return False
    return all([place in near[ahead] for ahead, place in zip(thing, thing[1:])])


def first_shared(places, ways):
    """The index of the first way with somebody inside who is one of places or in a way ahead."""
    seen = {place: True for place in places}
    for index, way in enumerate(ways):
        if any([place in seen for place in way[1:-1]]):
            return index
        for place in way:
            seen[place] = True
    return None


def bar_fault(board, thing):
    """Why any object bars no drawing of the board, None if it does."""
    need_board(board)
    near = closed_near(board)
    if not is_bar_form(near, thing):
        return ("form",)
    kind, places, ways = thing
    for index, (one, other) in enumerate(STEPS[kind]):
        if not leads(near, ways[index], places[one], places[other]):
            return ("way", index)
    index = first_shared(places, ways)
    return None if index is None else ("shared", index)


def cross_bar(board, cross):
    """A bar of five that has the outside among its places, made of a cross."""
    if not is_cross(board, cross):
        raise BadCross(cross)
    rim = board.rim()
    ways = cut_at_pins(rim, cross)
    ends = [pin for pin in rim if pin in [ways[0][0], ways[0][-1], ways[1][0], ways[1][-1]]]
    found = [[pin, OUTSIDE] for pin in ends]
    found.extend([stretch_of(rim, ends[index - 1], pin) for index, pin in enumerate(ends)])
    found.extend(ways)
    by_ends = {(way[0], way[-1]): way for way in found}
    for way in found:
        by_ends[(way[-1], way[0])] = way[::-1]
    return told_bar(sorted([*ends, OUTSIDE]), by_ends)

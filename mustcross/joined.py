"""Any number of told pairs of pins of a board without a cross: ways, or what bars them."""

from mustcross.apart import first_that_meets
from mustcross.closed import drawn
from mustcross.crosses import need_no_cross
from mustcross.crossing import alternate
from mustcross.errors import BadPairs
from mustcross.flows import apart_up_to, is_parted, nearest_parting
from mustcross.folding import fold_row
from mustcross.ledways import led_out_of_row
from mustcross.names import first_unknown, is_list, is_number, is_pair
from mustcross.routing import first_across, routed
from mustcross.stretches import all_stretches, pins_outside, stretch_of
from mustcross.ways import way_fault


def first_wrong_pair(rim, things):
    """The index of the first thing that is no pair of pins, or has one that stood: 0 for no list, else None."""
    if not is_list(things):
        return 0
    left = rim
    for index, thing in enumerate(things):
        if not is_pair(thing) or first_unknown(thing, left) is not None:
            return index
        left = [pin for pin in left if pin not in thing]
    return None


def need_pairs(board, pairs):
    """HasCross for a board with a cross, BadPairs for what are no pairs of pins, no pin twice."""
    need_no_cross(board)
    index = first_wrong_pair(board.rim(), pairs)
    if index is not None:
        raise BadPairs(index)


def joining_ways(board, pairs):
    """Ways that join the pairs, no two with a common place, None if there are none."""
    if first_across(board.rim(), pairs) is not None:
        return None
    # No two ways need one piece: each one takes two of its three feet.
    left, row = fold_row(board)
    ways = routed(board.rim(), drawn(left), pairs)
    return None if ways is None else led_out_of_row(board, row, ways)


def joined(board, pairs):
    """A way for each pair, no two with a common place, None if there are none."""
    need_pairs(board, pairs)
    return joining_ways(board, pairs)


def pairs_out(stretch, pairs):
    """How many pairs have just one pin in a stretch."""
    return len([pair for pair in pairs if (pair[0] in stretch) != (pair[1] in stretch)])


def parts_paper(board, pairs):
    """A stretch and a lot that parts it, with fewer places than pairs lead out of it, None if there is none."""
    near = board.near()
    rim = board.rim()
    for stretch in all_stretches(rim):
        many = pairs_out(stretch, pairs)
        others = pins_outside(rim, stretch)
        if len(apart_up_to(near, stretch, others, many)) < many:
            return ("parts", stretch[0], stretch[-1], nearest_parting(near, stretch, others))
    return None


def join_paper(board, pairs):
    """What bars ways for all pairs, None if they are joined apart."""
    need_pairs(board, pairs)
    across = first_across(board.rim(), pairs)
    if across is not None:
        return ("across", *across)
    return parts_paper(board, pairs)


def is_joined(board, pairs, thing):
    """Whether any object is a list of ways, one for each pair, no two with a common place."""
    need_pairs(board, pairs)
    if not is_list(thing) or len(thing) != len(pairs):
        return False
    if not all([way_fault(board, way) is None for way in thing]) or first_that_meets(thing) is not None:
        return False
    return all([(way[0], way[-1]) == tuple(pair) for way, pair in zip(thing, pairs)])


def is_across(rim, pairs, index, other):
    """Whether two objects are the indexes of pairs that alternate, the lesser first."""
    if not is_number(index) or not is_number(other) or not index < other < len(pairs):
        return False
    return alternate(rim, pairs[index], pairs[other])


def is_parts(board, pairs, first, last, lot):
    """Whether three objects are a stretch and a lot that parts it, with fewer places than pairs lead out."""
    rim = board.rim()
    near = board.near()
    if first not in rim or last not in rim or first_unknown(lot, near) is not None:
        return False
    stretch = stretch_of(rim, first, last)
    others = pins_outside(rim, stretch)
    return bool(others) and len(lot) < pairs_out(stretch, pairs) and is_parted(near, stretch, others, lot)


def is_join_paper(board, pairs, thing):
    """Whether any object is a paper that bars ways for all pairs."""
    need_pairs(board, pairs)
    if not is_list(thing) or not thing:
        return False
    if thing[0] == "across" and len(thing) == 3:
        return is_across(board.rim(), pairs, thing[1], thing[2])
    return thing[0] == "parts" and len(thing) == 4 and is_parts(board, pairs, thing[1], thing[2], thing[3])

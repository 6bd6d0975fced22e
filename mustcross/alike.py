"""Boards without a cross that join apart the same told pairs, or more of them."""

from mustcross.checks import need_board
from mustcross.crosses import need_no_cross
from mustcross.errors import OtherRim
from mustcross.flows import most_apart
from mustcross.joined import first_wrong_pair, joining_ways
from mustcross.rimcounts import counts
from mustcross.stretches import all_stretches, pins_outside


def need_same_rim(one, other):
    """BadBoard of one, of other, HasCross of one, of other, OtherRim for unlike rims."""
    need_board(one)
    need_board(other)
    need_no_cross(one)
    need_no_cross(other)
    if one.rim() != other.rim():
        raise OtherRim()


def lesser_stretch(one, other):
    """The first stretch that counts less in the one than in the other, None if none does."""
    ours = [number for row in counts(one) for number in row]
    theirs = [number for row in counts(other) for number in row]
    for stretch, our, their in zip(all_stretches(one.rim()), ours, theirs):
        if our < their:
            return stretch
    return None


def only_other_joins(one, other):
    """Pairs of pins that the other joins apart and the one does not, None if there are none."""
    stretch = lesser_stretch(one, other)
    if stretch is None:
        return None
    # As many ways as the stretch counts do not cross, so their ends are pairs that want so many.
    ways = most_apart(other.near(), stretch, pins_outside(other.rim(), stretch))
    return [(way[0], way[-1]) for way in ways]


def parting_pairs(one, other):
    """Pairs of pins that just one of both joins apart, None if there are none."""
    need_same_rim(one, other)
    pairs = only_other_joins(one, other)
    return only_other_joins(other, one) if pairs is None else pairs


def alike(one, other):
    """Whether both boards join apart the same told pairs."""
    need_same_rim(one, other)
    return counts(one) == counts(other)


def are_parting(one, other, thing):
    """Whether any object is a list of pairs of pins that just one of both joins apart."""
    need_same_rim(one, other)
    if first_wrong_pair(one.rim(), thing) is not None:
        return False
    return (joining_ways(one, thing) is None) != (joining_ways(other, thing) is None)


def is_better(one, other):
    """Whether the one joins apart all told pairs that the other joins apart."""
    need_same_rim(one, other)
    return lesser_stretch(one, other) is None


def better_paper(one, other):
    """Pairs of pins that the other joins apart and the one does not, None if there are none."""
    need_same_rim(one, other)
    return only_other_joins(one, other)

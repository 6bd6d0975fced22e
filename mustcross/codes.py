"""The rim's code: in which rings its pins go on."""

from itertools import permutations
from math import perm

from mustcross.checks import need_number
from mustcross.rimcounts import counts
from mustcross.ringcodes import count_on, is_code_of, need_code, need_rim, rings_by
from mustcross.strands import board_by_strands
from mustcross.stretches import need_stretch, stretch_of


def code(board):
    """The code of a board."""
    table = counts(board)
    return rings_by(board.rim(), table)


def is_code(rim, thing):
    """Whether any object is a code of a rim, as it is told."""
    need_rim(rim)
    return is_code_of(rim, thing)


def count_by(rim, code, first, last):
    """How many pins of a stretch go on to a pin outside it, by a code."""
    need_code(rim, code)
    need_stretch(rim, first, last)
    return count_on(code, stretch_of(rim, first, last))


def board_for(rim, code):
    """A board with a rim and its code, without a cross."""
    need_code(rim, code)
    return board_by_strands(list(rim), code)


def count_codes(many):
    """How many codes a rim of so many pins has."""
    need_number(many)
    found = [1]
    for others in range(many):
        # By how many of the others are in the first one's ring: alone, in a couple, in a ring either way about.
        total = found[others]
        for inside in range(1, others + 1):
            rings = perm(others, inside)
            total += (rings if inside == 1 else rings // 2) * found[others - inside]
        found.append(total)
    return found[many]


def codes_of(pins):
    """All codes of an ascending list of pins, as tuples."""
    if not pins:
        return [()]
    found = []
    others = pins[1:]
    for many in range(len(others) + 1):
        for row in permutations(others, many):
            if many < 2 or row[0] < row[-1]:
                left = [pin for pin in others if pin not in row]
                found.extend([((pins[0], *row), *rings) for rings in codes_of(left)])
    return found


def all_codes(rim):
    """The ascending list of all codes of a rim."""
    need_rim(rim)
    return [[list(ring) for ring in rings] for rings in sorted(codes_of(sorted(rim)))]

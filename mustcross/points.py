"""Points of the plane, told as pairs of fractions, and how they lie to one another.

To count with, a point is a triple (x, y, under): integers, its fractions being
x over under and y over under, under above 0.
"""

from math import gcd

from mustcross.names import is_integer, is_pair


def is_fraction(thing):
    """Whether any object is a pair of integers in lowest terms, the latter above 0."""
    if not is_pair(thing) or not is_integer(thing[0]) or not is_integer(thing[1]):
        return False
    return thing[1] > 0 and gcd(thing[0], thing[1]) == 1


def is_point(thing):
    """Whether any object is a pair of fractions."""
    return is_pair(thing) and is_fraction(thing[0]) and is_fraction(thing[1])


def told_fraction(over, under):
    """A fraction in lowest terms, by integers of which under is not 0."""
    most = gcd(over, under) if under > 0 else -gcd(over, under)
    return over // most, under // most


def corner(index):
    """The point at which the pin with an index lies."""
    return (index, 1), (-index * index, 1)


def triple(point):
    """A point to count with."""
    (one, under), (other, below) = point
    return one * below, other * under, under * below


def turn(one, other, third):
    """Above 0 if one comes by other to third by a turn to the left, below by one to the right, else 0."""
    left = one[0] * (other[1] * third[2] - other[2] * third[1])
    middle = one[1] * (other[2] * third[0] - other[0] * third[2])
    return left + middle + one[2] * (other[0] * third[1] - other[1] * third[0])


def is_between(one, other, third):
    """Whether a third point, in line with two points, lies between them, or is one of them."""
    for axis in (0, 1):
        ahead = third[axis] * one[2] - one[axis] * third[2]
        behind = third[axis] * other[2] - other[axis] * third[2]
        if ahead > 0 and behind > 0 or ahead < 0 and behind < 0:
            return False
    return True


def is_same(one, other):
    """Whether two points are one."""
    return one[0] * other[2] == other[0] * one[2] and one[1] * other[2] == other[1] * one[2]


def parts(one, other, third, last):
    """Whether the line through two points does not have two others strictly on one side."""
    return turn(one, other, third) * turn(one, other, last) <= 0


def touch(one, other, third, last):
    """Whether two straight ties, from one to other, from third to last, have a point in common."""
    if not parts(one, other, third, last) or not parts(third, last, one, other):
        return False
    if turn(one, other, third) != 0 or turn(one, other, last) != 0:
        return True
    return (is_between(one, other, third) or is_between(one, other, last)
            or is_between(third, last, one))


def lie_in_one(place, one, other):
    """Whether the straight ties from a place to one and to other lie in one another."""
    return turn(place, one, other) == 0 and (is_between(place, one, other) or is_between(place, other, one))

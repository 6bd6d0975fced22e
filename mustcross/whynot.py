"""Why two told pairs of places are not joined apart."""

from mustcross.flows import apart_up_to, is_parted
from mustcross.names import is_integer, is_list
from mustcross.passed import must_pass
from mustcross.pictures import is_picture, picture
from mustcross.twos import are_joined_apart, board_of_two, need_two


def leads_between(board, pair):
    """Whether some way leads from one place of a pair to the other."""
    return bool(apart_up_to(board.near(), [pair[0]], [pair[1]], 1))


def why_not(board, one, two):
    """The first reason why two pairs are not joined apart, None if they are."""
    need_two(board, one, two)
    if are_joined_apart(board, one, two):
        return None
    for index, pair in enumerate([one, two]):
        if not leads_between(board, pair):
            return "no way", index
    passed = must_pass(board, [two[0]], [two[1]])
    common = [place for place in must_pass(board, [one[0]], [one[1]]) if place in passed]
    if common:
        return "place", min(common)
    folds, orders = picture(board_of_two(board, one, two))
    return "picture", folds, orders


def is_common_place(board, one, two, thing):
    """Whether any object is a place over which all ways of both pairs go, of which there are some."""
    if not board.has_place(thing):
        return False
    near = board.near()
    return all([leads_between(board, pair) and is_parted(near, [pair[0]], [pair[1]], [thing])
                for pair in (one, two)])


def is_why_not(board, one, two, thing):
    """Whether any object is a reason why two pairs are not joined apart."""
    need_two(board, one, two)
    if not is_list(thing) or len(thing) not in (2, 3):
        return False
    if len(thing) == 3:
        return thing[0] == "picture" and is_picture(board_of_two(board, one, two), thing[1:])
    if thing[0] == "no way":
        return is_integer(thing[1]) and thing[1] in (0, 1) and not leads_between(board, (one, two)[thing[1]])
    return thing[0] == "place" and is_common_place(board, one, two, thing[1])

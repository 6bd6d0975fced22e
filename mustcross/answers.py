"""Answers: a cross, or a picture, by their form alone."""

from mustcross.names import is_list, is_name, is_pair, is_row_of_names
from mustcross.outs import MOST_FEET


def is_cross_form(thing):
    """Whether a list has the form of a cross."""
    if len(thing) != 3 or not is_list(thing[1]) or not is_list(thing[2]):
        return False
    if len(thing[1]) < 2 or len(thing[2]) < 2:
        return False
    return is_row_of_names([*thing[1], *thing[2]])


def is_fold_form(thing):
    """Whether any object is a pair of a lot and its feet."""
    if not is_pair(thing) or not is_list(thing[0]) or not is_list(thing[1]):
        return False
    if len(thing[0]) < 1 or len(thing[1]) > MOST_FEET:
        return False
    return is_row_of_names([*thing[0], *thing[1]])


def is_orders_form(thing):
    """Whether any object is a dict from names to lists of unlike other names."""
    if not isinstance(thing, dict) or not all([is_name(name) for name in thing]):
        return False
    return all([is_row_of_names(row) and name not in row for name, row in thing.items()])


def is_picture_form(thing):
    """Whether a list has the form of a picture."""
    if len(thing) != 3 or not is_list(thing[1]):
        return False
    return all([is_fold_form(fold) for fold in thing[1]]) and is_orders_form(thing[2])


def is_answer(thing):
    """Whether any object is an answer."""
    if not is_list(thing) or not thing:
        return False
    if thing[0] == "cross":
        return is_cross_form(thing)
    return thing[0] == "picture" and is_picture_form(thing)


def told_cross(one, other):
    """The answer of two ways, as it is told."""
    return ("cross", list(one), list(other))


def told_picture(folds, orders):
    """The answer of folds and orders, as it is told."""
    rows = [(sorted(lot), sorted(feet)) for lot, feet in folds]
    return ("picture", rows, {name: list(orders[name]) for name in sorted(orders)})


def told_answer(answer):
    """An answer as it is told."""
    if answer[0] == "cross":
        return told_cross(answer[1], answer[2])
    return told_picture(answer[1], answer[2])

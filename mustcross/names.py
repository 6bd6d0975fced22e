"""What an object has to be to count as a name, a number, a list or a pair."""

LETTERS = "abcdefghijklmnopqrstuvwxyz"
NAME_SIGNS = "abcdefghijklmnopqrstuvwxyz0123456789"
LONGEST_NAME = 8
WORDS = ("place", "tie", "rim", "pair", "way", "fold", "behind", "at", "cross", "none",
         "apart", "not", "watch", "hold")


def is_name(thing):
    """Whether any object is a name."""
    if not isinstance(thing, str) or not 0 < len(thing) <= LONGEST_NAME:
        return False
    if thing[0] not in LETTERS or thing in WORDS:
        return False
    return all([sign in NAME_SIGNS for sign in thing])


def is_integer(thing):
    """Whether any object is an integer: truths are none."""
    return isinstance(thing, int) and not isinstance(thing, bool)


def is_number(thing):
    """Whether any object is an integer from 0 on."""
    return is_integer(thing) and thing >= 0


def is_list(thing):
    """Whether any object may stand for a list."""
    return isinstance(thing, (list, tuple))


def is_pair(thing):
    """Whether any object is a list of two things."""
    return is_list(thing) and len(thing) == 2


def is_row_of_names(thing):
    """Whether any object is a list of unlike names."""
    if not is_list(thing) or not all([is_name(part) for part in thing]):
        return False
    return len(set(thing)) == len(thing)


def unused_names(taken, many):
    """The list of so many names that are not among those taken."""
    found = []
    number = 0
    while len(found) < many:
        name = f"z{number}"
        if name not in taken:
            found.append(name)
        number += 1
    return found


def told_pair(pair):
    """A pair of names as it is told: the lesser one first."""
    return tuple(sorted(pair))


def first_wrong_name(things):
    """The index of the first thing that is no name, or stood before: 0 for no list, else None."""
    if not is_list(things):
        return 0
    seen = {}
    for index, thing in enumerate(things):
        if not is_name(thing) or thing in seen:
            return index
        seen[thing] = True
    return None


def first_unknown(things, known):
    """The index of the first thing that is not known, or stood before: 0 for no list, else None."""
    if not is_list(things):
        return 0
    seen = {}
    for index, thing in enumerate(things):
        if not isinstance(thing, str) or thing not in known or thing in seen:
            return index
        seen[thing] = True
    return None

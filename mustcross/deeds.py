"""Deeds, as tuples: what they make of a board, and of the questions that are watched.

The watched questions are a tuple of pairs (question, whether it is held), in
the order in which they came.
"""

from mustcross.boards import Board
from mustcross.changed import with_tie, without, without_tie
from mustcross.crossing import off_rim
from mustcross.errors import BadDeed, BadName, BadPlace, BadQuestion, IsWatched, NoPin, NotWatched
from mustcross.names import is_list, is_number
from mustcross.questions import is_question_of
from mustcross.through import need_new_name

PARTS = {"place": 1, "leave": 1, "tie": 2, "cut": 2, "pin": 2, "off": 1, "watch": 1, "hold": 1, "free": 1}
ON_QUESTIONS = ("watch", "hold", "free")


def need_deed(thing):
    """BadDeed for what is no word of a deed with so many parts."""
    if not is_list(thing) or not thing or not isinstance(thing[0], str) or thing[0] not in PARTS:
        raise BadDeed(thing)
    if len(thing) != PARTS[thing[0]] + 1:
        raise BadDeed(thing)


def told_deed(deed):
    """A deed as it is told."""
    if deed[0] in ON_QUESTIONS:
        return deed[0], tuple(deed[1])
    return tuple(deed)


def need_known(board, names):
    """BadName for the first name that is no place of the board."""
    for name in names:
        if not board.has_place(name):
            raise BadName(name)


def place_more(board, name):
    """The board with a place more."""
    need_new_name(board, name)
    return Board([*board.places(), name], board.ties(), board.rim())


def place_fewer(board, name):
    """The board without a place and its ties."""
    need_known(board, [name])
    return without(board, name)


def tie_more(board, one, other):
    """The board with a tie more."""
    need_known(board, [one, other])
    return with_tie(board, one, other)


def tie_fewer(board, one, other):
    """The board with a tie fewer."""
    need_known(board, [one, other])
    return without_tie(board, one, other)


def pin_moved(board, name, at):
    """The board with a place as the pin with an index."""
    need_known(board, [name])
    others = [pin for pin in board.rim() if pin != name]
    if not is_number(at) or at > len(others):
        raise BadPlace(at)
    return Board(board.places(), board.ties(), [*others[:at], name, *others[at:]])


def pin_fewer(board, name):
    """The board with a pin that is none any more."""
    need_known(board, [name])
    if name not in board.rim():
        raise NoPin(name)
    return off_rim(board, name)


ON_BOARDS = {"place": place_more, "leave": place_fewer, "tie": tie_more, "cut": tie_fewer, "pin": pin_moved,
             "off": pin_fewer}


def board_behind(board, deed):
    """The board behind a deed."""
    if deed[0] not in ON_BOARDS:
        return board
    action = ON_BOARDS[deed[0]]
    parts = deed[1:]
    return action(board, *parts)


def watched_behind(board, watched, deed):
    """The watched questions behind a deed."""
    if deed[0] not in ON_QUESTIONS:
        return watched
    word, thing = deed
    if not is_question_of(board, thing):
        raise BadQuestion(thing)
    question = tuple(thing)
    held = {one: is_held for one, is_held in watched}
    if word == "free":
        if question not in held:
            raise NotWatched(question)
        del held[question]
    else:
        if question in held and (word == "watch" or held[question]):
            raise IsWatched(question)
        held[question] = word == "hold"
    return tuple([(one, held[one]) for one in held])

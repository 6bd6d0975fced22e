"""Places put between others or on ties, and ways through told places."""

from mustcross.boards import Board
from mustcross.checks import need_tie, need_two_places
from mustcross.errors import BadName, SamePlace
from mustcross.names import is_name, unused_names
from mustcross.rounds import need_told_of, round_through
from mustcross.walks import turned_to


def need_unlike_places(board, one, other):
    """BadBoard, NoPlace of one, of other, SamePlace where the other is the one."""
    need_two_places(board, one, other)
    if one == other:
        raise SamePlace(other)


def need_new_name(board, name):
    """BadName for what is no name, or a place of the board."""
    if not is_name(name) or board.has_place(name):
        raise BadName(name)


def with_place(board, one, other, name):
    """The board with a place more, tied to two others."""
    return Board([*board.places(), name], [*board.ties(), (one, name), (name, other)], board.rim())


def put_between(board, one, other, name):
    """The board with a place of this name more, tied to both."""
    need_unlike_places(board, one, other)
    need_new_name(board, name)
    return with_place(board, one, other, name)


def put_on(board, one, other, name):
    """The board with a place of this name in a tie's place."""
    need_two_places(board, one, other)
    need_tie(board, one, other)
    need_new_name(board, name)
    ties = [tie for tie in board.ties() if tie != (one, other) and tie != (other, one)]
    return with_place(Board(board.places(), ties, board.rim()), one, other, name)


def way_through(board, one, other, told):
    """A way from one place to another that has all told places, None if there is none."""
    need_unlike_places(board, one, other)
    need_told_of([place for place in board.places() if place not in (one, other)], told, 1, 2)
    name = unused_names(board.places(), 1)[0]
    found = round_through(with_place(board, one, other, name), [*told, name])
    if found is None:
        return None
    way = turned_to(found, name)[1:]
    return way if way[0] == one else way[::-1]

"""Notices: a board, and wishes for two ways without a common place."""

from mustcross.checks import need_board
from mustcross.errors import BadNotice, BadWishes
from mustcross.names import is_list, is_pair, told_pair


def is_wish(board, thing):
    """Whether any object is a pair of pairs of four unlike places of the board."""
    if not is_pair(thing) or not all([is_pair(pair) for pair in thing]):
        return False
    places = [place for pair in thing for place in pair]
    if not all([board.has_place(place) for place in places]):
        return False
    return len(set(places)) == len(places)


def told_wish(wish):
    """A wish as it is told: lesser places first, then the pair with the least of the four."""
    return tuple(sorted([told_pair(pair) for pair in wish]))


def first_wrong_wish(board, things):
    """The index of the first thing that is no wish, or stood before: 0 for no list, else None."""
    if not is_list(things):
        return 0
    seen = {}
    for index, thing in enumerate(things):
        if not is_wish(board, thing):
            return index
        wish = told_wish(thing)
        if wish in seen:
            return index
        seen[wish] = True
    return None


class Notice:
    """A board and its wishes; it never changes."""

    def __init__(self, board, wishes):
        need_board(board)
        index = first_wrong_wish(board, wishes)
        if index is not None:
            raise BadWishes(index)
        self._board = board
        self._wishes = [told_wish(wish) for wish in wishes]

    def __eq__(self, other):
        return (isinstance(other, Notice) and self._board == other._board
                and self._wishes == other._wishes)

    def board(self):
        """The board."""
        return self._board

    def wishes(self):
        """The list of the wishes, in the order passed."""
        return list(self._wishes)


def need_notice(notice):
    """BadNotice for what is no Notice."""
    if not isinstance(notice, Notice):
        raise BadNotice(notice)

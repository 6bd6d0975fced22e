"""Ways and rounds that go over a told tie in a told sense."""

from mustcross.checks import need_board, need_place, need_tie
from mustcross.errors import SamePlace
from mustcross.twos import two_joined


def need_four(board, four):
    """BadBoard, NoPlace of each, SamePlace of the first that stood before."""
    need_board(board)
    for place in four:
        need_place(board, place)
    for index, place in enumerate(four):
        if place in four[:index]:
            raise SamePlace(place)


def way_over(board, one, other, first, second):
    """A way from one to other on which second stands right behind first, None if there is none."""
    need_four(board, [one, other, first, second])
    need_tie(board, first, second)
    ways = two_joined(board, (one, first), (second, other))
    return None if ways is None else [*ways[0], *ways[1]]


def round_over(board, one, other, first, second):
    """A round on which other stands right behind one, second right behind first, None if there is none."""
    need_four(board, [one, other, first, second])
    need_tie(board, one, other)
    need_tie(board, first, second)
    ways = two_joined(board, (other, first), (second, one))
    return None if ways is None else [*ways[0], *ways[1]]

"""Two told pairs of places, joined apart or not."""

from itertools import combinations

from mustcross.boards import Board
from mustcross.checks import need_board
from mustcross.closed import is_drawable
from mustcross.crossing import crossing_ways, is_crossed, straight_cross
from mustcross.errors import BadPairs
from mustcross.folding import fold_row
from mustcross.names import first_unknown, is_pair
from mustcross.pictures import picture


def need_two(board, one, two):
    """BadBoard for what is no Board, BadPairs for what are no two pairs of four unlike places."""
    need_board(board)
    places = board.places()
    if not is_pair(one) or first_unknown(one, places) is not None:
        raise BadPairs(0)
    left = [place for place in places if place not in one]
    if not is_pair(two) or first_unknown(two, left) is not None:
        raise BadPairs(1)


def board_of_two(board, one, two):
    """The board with the places of both pairs, by turns, for its rim."""
    return Board(board.places(), board.ties(), [one[0], two[0], one[1], two[1]])


def led_from(ways, pair):
    """The one of the ways that joins a pair, from its first place on."""
    one, other = ways
    way = one if pair[0] in (one[0], one[-1]) else other
    return way if way[0] == pair[0] else way[::-1]


def two_joined(board, one, two):
    """Two ways without a common place that join the places of each pair, None if there are none."""
    need_two(board, one, two)
    ways = crossing_ways(board_of_two(board, one, two))
    return None if ways is None else (led_from(ways, one), led_from(ways, two))


def two_board(board, one, two):
    """The board whose rim is one's first, two's first, one's other, two's other."""
    need_two(board, one, two)
    return board_of_two(board, one, two)


def two_picture(board, one, two):
    """A picture of two_board, None if there is none."""
    need_two(board, one, two)
    return picture(board_of_two(board, one, two))


def are_joined_apart(board, one, two):
    """Whether two pairs of four unlike places are joined apart."""
    turned = board_of_two(board, one, two)
    return straight_cross(turned) is not None or is_crossed(turned)


def pairings(board):
    """The list of all pairs of pairs of pins that are joined apart, by their places on the rim."""
    need_board(board)
    left = fold_row(board)[0]
    rim = board.rim()
    found = []
    for pin in rim:
        behind = rim[rim.index(pin) + 1:]
        for other in behind:
            rest = [place for place in behind if place != other]
            for two in combinations(rest, 2):
                if are_joined_apart(left, (pin, other), two):
                    found.append(((pin, other), two))
    return found


def calm_pins(board):
    """The list of the pins at which no cross ends, in the rim's order."""
    need_board(board)
    left = fold_row(board)[0]
    rim = board.rim()
    if is_drawable(left):
        return rim
    ends = {}
    for four in combinations(rim, 4):
        if not all([pin in ends for pin in four]) and are_joined_apart(left, four[::2], four[1::2]):
            for pin in four:
                ends[pin] = True
    return [pin for pin in rim if pin not in ends]

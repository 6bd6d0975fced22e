"""Boards laid straight: pins at corners, all other places within, ties straight."""

from itertools import combinations

from mustcross.checks import need_board
from mustcross.closed import is_drawable
from mustcross.errors import BadLaying, FewPins, HangsByTwo
from mustcross.folding import inner_places
from mustcross.means import means
from mustcross.pieces import least_feet
from mustcross.points import corner, is_point, is_same, lie_in_one, touch, triple, turn

FEWEST_PINS = 3


def need_pins(board):
    """BadBoard for what is no Board, FewPins for fewer than three pins."""
    need_board(board)
    if len(board.rim()) < FEWEST_PINS:
        raise FewPins(len(board.rim()))


def need_no_hanging(board):
    """HangsByTwo for the first place that a piece of at most two feet has."""
    for place in inner_places(board):
        many = least_feet(board, place)
        if many is not None and many < FEWEST_PINS:
            raise HangsByTwo(place)


def is_layout(board, thing):
    """Whether any object is a dict from just all places to points."""
    if not isinstance(thing, dict) or len(thing) != len(board.places()):
        return False
    return all([place in thing and is_point(thing[place]) for place in board.places()])


def is_within(corners, point):
    """Whether a point lies strictly within corners that go round clockwise."""
    return all([turn(corners[index - 1], place, point) < 0 for index, place in enumerate(corners)])


def first_elsewhere(board, points):
    """The fault of the first pin that is not at its corner, or else of the first place not within."""
    rim = board.rim()
    for place in sorted(rim):
        if not is_same(points[place], triple(corner(rim.index(place)))):
            return ("pin", place)
    corners = [points[pin] for pin in rim]
    for place in inner_places(board):
        if not is_within(corners, points[place]):
            return ("out", place)
    return None


def meet_straight(points, one, other):
    """Whether two straight ties have a point in common that is no place of both."""
    shared = [place for place in one if place in other]
    if not shared:
        return touch(points[one[0]], points[one[1]], points[other[0]], points[other[1]])
    ends = [place for place in [*one, *other] if place not in shared]
    return lie_in_one(points[shared[0]], points[ends[0]], points[ends[1]])


def laying_fault(board, thing):
    """Why any object is no laying of the board, None if it is one."""
    need_pins(board)
    if not is_layout(board, thing):
        return ("form",)
    points = {place: triple(thing[place]) for place in board.places()}
    fault = first_elsewhere(board, points)
    if fault is not None:
        return fault
    places = board.places()
    ties = board.ties()
    for one, other in combinations(places, 2):
        if is_same(points[one], points[other]):
            return ("same", one, other)
    for tie, crossed in combinations(ties, 2):
        if meet_straight(points, tie, crossed):
            return ("touch", tie, crossed)
    return None


def laid(board):
    """The laying by which each place but pins is the mean of those tied to it, None without a drawing."""
    need_pins(board)
    need_no_hanging(board)
    if not is_drawable(board):
        return None
    points = means(board, inner_places(board))
    for index, pin in enumerate(board.rim()):
        points[pin] = corner(index)
    return {place: points[place] for place in board.places()}


def side_from(points, place, first, other):
    """Which part of a clockwise turn round a place, from first on, comes to another: 0 is first itself."""
    if other == first:
        return 0
    return 1 if turn(points[place], points[first], points[other]) <= 0 else 2


def goes_ahead(points, place, first, one, other):
    """Whether one comes ahead of other on a clockwise turn round a place, from first on."""
    sides = [side_from(points, place, first, end) for end in (one, other)]
    if sides[0] != sides[1]:
        return sides[0] < sides[1]
    return turn(points[place], points[one], points[other]) < 0


def order_round(points, place, near, first):
    """The neighbours of a place as they lie round it clockwise, from one of them on."""
    rows = [(len([one for one in near if goes_ahead(points, place, first, one, other)]), other) for other in near]
    return [other for _, other in sorted(rows)]


def first_in_corner(points, pin, near):
    """The first neighbour of a pin that comes on a clockwise turn from the outside."""
    # All of them lie within the corner, which is less than half a turn.
    return [other for other in near
            if not any([turn(points[pin], points[one], points[other]) < 0 for one in near])][0]


def read_off(board, laying):
    """The drawing with the ties round each place as they lie."""
    if laying_fault(board, laying) is not None:
        raise BadLaying(laying)
    points = {place: triple(laying[place]) for place in board.places()}
    rim = board.rim()
    orders = {}
    for place in board.places():
        near = board.ties_of(place)
        if near:
            first = first_in_corner(points, place, near) if place in rim else near[0]
            orders[place] = order_round(points, place, near, first)
        else:
            orders[place] = []
    return orders

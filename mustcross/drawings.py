"""Drawings of boards in the rim's disc, and their faces."""

from mustcross.checks import need_board, need_place
from mustcross.closed import drawn
from mustcross.errors import BadDrawing
from mustcross.names import first_unknown, is_list
from mustcross.walks import due_faces, from_least, rings_with_outside, walked_faces


def drawing(board):
    """A drawing of a board, None if there is none."""
    need_board(board)
    return drawn(board)


def is_orders(board, thing):
    """Whether any object is a dict from just all places to lists."""
    if not isinstance(thing, dict) or len(thing) != len(board.places()):
        return False
    return all([place in thing and is_list(thing[place]) for place in board.places()])


def drawing_fault(board, thing):
    """Why any object is no drawing of the board, None if it is one."""
    need_board(board)
    if not is_orders(board, thing):
        return ("form",)
    for place in board.places():
        near = board.ties_of(place)
        if first_unknown(thing[place], near) is not None or len(thing[place]) != len(near):
            return ("order", place)
    rings = rings_with_outside(board, thing)
    many = len(walked_faces(rings))
    due = due_faces(rings)
    return None if many == due else ("faces", many, due)


def need_drawing(board, thing):
    """BadBoard for what is no Board, BadDrawing for what is no drawing of it."""
    if drawing_fault(board, thing) is not None:
        raise BadDrawing(thing)


def faces(board, drawing):
    """The ascending list of all faces of a drawing, each from the place on by which it is least."""
    need_drawing(board, drawing)
    found = walked_faces(rings_with_outside(board, drawing))
    return sorted([least_turn(face) for face in found])


def least_turn(face):
    """A face, from the place on by which it is least."""
    return min([face[index:] + face[:index] for index in range(len(face))])


def share_face(board, drawing, one, other):
    """Whether two places stand in one face of a drawing."""
    need_drawing(board, drawing)
    need_place(board, one)
    need_place(board, other)
    found = walked_faces(rings_with_outside(board, drawing))
    return any([one in face and other in face for face in found])


def mirrored(board, drawing):
    """The drawing of the board with its rim turned about in which each order is turned about."""
    need_drawing(board, drawing)
    pins = board.rim()
    turned = {}
    for place in board.places():
        order = list(drawing[place])[::-1]
        turned[place] = order if place in pins else from_least(order)
    return turned

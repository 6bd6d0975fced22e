"""Pieces folded away, one behind another."""

from itertools import combinations

from mustcross.boards import Board
from mustcross.checks import need_board
from mustcross.errors import BadPiece
from mustcross.nests import greatest_piece
from mustcross.pieces import feet, is_piece, least_feet


def without_piece(board, piece, around):
    """The board without a piece, its feet, which are around, tied to one another."""
    ties = {tie: True for tie in board.ties() if tie[0] not in piece and tie[1] not in piece}
    for tie in combinations(around, 2):
        ties[tie] = True
    places = [place for place in board.places() if place not in piece]
    return Board(places, list(ties), board.rim())


def folded(board, piece):
    """The board with a piece folded away."""
    if not is_piece(board, piece):
        raise BadPiece(piece)
    return without_piece(board, piece, feet(board, piece))


def inner_places(board):
    """The ascending list of the places that are no pins."""
    pins = board.rim()
    return [place for place in board.places() if place not in pins]


def fold_row(board):
    """The board that is left when no piece is left, and the pieces folded, each with its feet."""
    need_board(board)
    left = board
    row = []
    # One round does: a place that lies in no piece lies in none when another
    # one is folded, for with it that piece, put back, would be a piece.
    for place in inner_places(board):
        piece = greatest_piece(left, place) if left.has_place(place) else None
        if piece is not None:
            around = feet(left, piece)
            left = without_piece(left, piece, around)
            row.append((piece, around))
    return left, row


def hanging_by_two(board):
    """The ascending list of the pieces of at most two feet that lie in no other one."""
    # Such a piece is the greatest one of some place in it: else each place
    # would lie in one of one foot, and these would not hang together.
    found = []
    for place in inner_places(board):
        many = least_feet(board, place)
        if many is not None and many <= 2:
            piece = greatest_piece(board, place)
            if piece not in found:
                found.append(piece)
    return sorted([piece for piece in found if not lies_in_another(piece, found)])


def lies_in_another(piece, pieces):
    """Whether a piece lies in another one of a list."""
    return any([piece != other and all([place in other for place in piece]) for other in pieces])


def thinned(board):
    """The board with all greatest pieces of at most two feet folded, and these pieces."""
    need_board(board)
    left = board
    pieces = hanging_by_two(board)
    for piece in pieces:
        left = without_piece(left, piece, feet(left, piece))
    return left, pieces

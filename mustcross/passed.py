"""The places that all ways pass."""

from mustcross.checks import need_board, need_lots
from mustcross.flows import apart_up_to, is_parted


def must_pass(board, some, others):
    """The places that all ways from some to others have, in the ways' order."""
    need_board(board)
    need_lots(board, some, others)
    near = board.near()
    ways = apart_up_to(near, some, others, 1)
    if not ways:
        return []
    return [place for place in ways[0] if is_parted(near, some, others, [place])]

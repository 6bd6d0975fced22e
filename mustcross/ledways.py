"""Ways led through pieces: into the folded board, and out again."""

from mustcross.apart import first_that_meets
from mustcross.errors import BadLed
from mustcross.flows import apart_up_to
from mustcross.folding import folded, without_piece
from mustcross.names import is_list
from mustcross.ways import way_fault


def need_led(board, ways, barred):
    """BadLed for the first thing that is no way, has an end that is barred, or meets one ahead."""
    if not is_list(ways):
        raise BadLed(0)
    for index, way in enumerate(ways):
        if way_fault(board, way) is not None or way[0] in barred or way[-1] in barred:
            raise BadLed(index)
        if first_that_meets(ways[:index + 1]) is not None:
            raise BadLed(index)


def led_in(board, piece, ways):
    """Ways of a board as ways of the board with a piece folded."""
    folded(board, piece)
    need_led(board, ways, piece)
    return [[place for place in way if place not in piece] for way in ways]


def led_out(board, piece, ways):
    """Ways of the board with a piece folded as ways of the board."""
    need_led(folded(board, piece), ways, [])
    return [way_out_of(board.near(), piece, way) for way in ways]


def way_out_of(near, piece, way):
    """A way of the folded board, led through the piece where a tie is wanting."""
    wanting = [index for index in range(1, len(way)) if way[index] not in near[way[index - 1]]]
    if not wanting:
        return list(way)
    # Two such steps go over all three feet: then the middle one is left out.
    ahead = way[:wanting[0]]
    behind = way[wanting[-1]:]
    return [*ahead, *way_inside(near, piece, ahead[-1], behind[0]), *behind]


def way_inside(near, piece, one, other):
    """A way within a piece from a neighbour of one foot to a neighbour of another."""
    inside = {place: [step for step in near[place] if step in piece] for place in sorted(piece)}
    some = [place for place in inside if one in near[place]]
    others = [place for place in inside if other in near[place]]
    return apart_up_to(inside, some, others, 1)[0]


def led_out_of_row(board, row, ways):
    """Ways of the board that is left behind a row of folded pieces as ways of the board."""
    left = board
    nears = []
    for piece, around in row:
        nears.append(left.near())
        left = without_piece(left, piece, around)
    for near, (piece, _) in zip(nears[::-1], row[::-1]):
        ways = [way_out_of(near, piece, way) for way in ways]
    return ways

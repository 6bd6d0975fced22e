"""Questions about a board, as tuples of a word and names."""

from mustcross.codes import code
from mustcross.crossing import crossing_ways, is_crossed
from mustcross.flows import apart_up_to, come_to
from mustcross.names import first_unknown, is_list
from mustcross.pictures import picture
from mustcross.rimcounts import count_out
from mustcross.stretches import pins_outside, stretch_of
from mustcross.twos import are_joined_apart, board_of_two, two_joined

PARTS = {"cross": 0, "apart": 4, "joined": 2, "count": 2, "ring": 1}
OF_PINS = ("count", "ring")


def is_question_of(board, thing):
    """Whether any object is a question about a board."""
    if not is_list(thing) or not thing or not isinstance(thing[0], str) or thing[0] not in PARTS:
        return False
    if len(thing) != PARTS[thing[0]] + 1:
        return False
    if thing[0] in OF_PINS:
        pins = board.rim()
        return all([part in pins for part in thing[1:]])
    return first_unknown(thing[1:], board.places()) is None


def answer_cross(board):
    """Whether there is a cross."""
    return is_crossed(board)


def answer_apart(board, a, b, c, d):
    """Whether a and b, c and d can be joined by two ways without a common place."""
    return are_joined_apart(board, (a, b), (c, d))


def answer_joined(board, one, other):
    """Whether some way leads from one to other."""
    return other in come_to(board.near(), [one], [])


def answer_count(board, first, last):
    """The count of a stretch, None if it is all pins."""
    rim = board.rim()
    stretch = stretch_of(rim, first, last)
    return count_out(board.near(), rim, stretch) if pins_outside(rim, stretch) else None


def answer_ring(board, pin):
    """The ring in which a pin goes on."""
    return [ring for ring in code(board) if pin in ring][0]


ANSWERS = {"cross": answer_cross, "apart": answer_apart, "joined": answer_joined, "count": answer_count,
           "ring": answer_ring}


def answer_of(board, question):
    """The answer of a question."""
    action = ANSWERS[question[0]]
    parts = question[1:]
    return action(board, *parts)


def why_cross(board):
    """A cross of the board, else a picture."""
    ways = crossing_ways(board)
    return picture(board) if ways is None else ways


def why_apart(board, a, b, c, d):
    """Two ways that join a and b, c and d, without a common place, else a picture that bars them."""
    ways = two_joined(board, (a, b), (c, d))
    return picture(board_of_two(board, (a, b), (c, d))) if ways is None else ways


def why_joined(board, one, other):
    """A way from one to other, else the list of all places to which one leads."""
    near = board.near()
    ways = apart_up_to(near, [one], [other], 1)
    return ways[0] if ways else sorted(come_to(near, [one], []))


WHYS = {"cross": why_cross, "apart": why_apart, "joined": why_joined}


def why_of(board, question, ahead, behind):
    """What shows the answer on a board, if the question is of ways; else the answers ahead and behind."""
    if question[0] not in WHYS:
        return ahead, behind
    action = WHYS[question[0]]
    parts = question[1:]
    return action(board, *parts)

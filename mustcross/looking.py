"""What is wrong with the text of an answer, to whoever looks at a board.

A text is passed as its lines, each a list of pairs (word, sign), the sign with
which the word begins; what is wrong is told as (line, sign, why).
"""

from mustcross.crossing import alternate
from mustcross.drawings import drawing_fault
from mustcross.folding import without_piece
from mustcross.names import told_pair
from mustcross.pieces import feet_of, hangs_together


def lines_of(text):
    """The lines of an answer's text."""
    return [words_of(line) for line in text.split("\n")[:-1]]


def words_of(line):
    """The list of the words of a line, each with its first sign."""
    found = []
    sign = 1
    for word in line.replace(",", " ").replace(":", " ").split(" "):
        if word:
            found.append((word, sign))
        sign += len(word) + 1
    return found


def names_in(words):
    """The names without their signs."""
    return [name for name, _ in words]


def wrong_in_way(board, words):
    """The sign and why of the first name of a way that is wrong, else None."""
    ahead = None
    for name, sign in words:
        if not board.has_place(name):
            return sign, "who"
        if ahead is not None and name not in board.ties_of(ahead):
            return sign, "tie"
        ahead = name
    return None


def wrong_in_cross(board, pairs, lines):
    """What is wrong with a cross whose ways have pins, or the pairs if they are told, for their ends, else None."""
    rim = board.rim()
    found = []
    for index, words in enumerate(lines):
        fault = wrong_in_way(board, words[1:])
        if fault is not None:
            return (index + 1, *fault)
        ends = (words[1][0], words[-1][0])
        if not all([end in rim for end in ends]) or (pairs and told_pair(ends) not in pairs):
            return index + 1, 1, "ends"
        found.append(ends)
    if not alternate(rim, found[0], found[1]):
        return len(lines) + 1, 1, "turns"
    return None


def wrong_name(board, left, name):
    """Why a name is that of no place that is left of a board, else None."""
    if not board.has_place(name):
        return "who"
    return None if left.has_place(name) else "gone"


def lot_and_feet(words):
    """The names of a lot and of its feet in the line of a fold."""
    names = names_in(words)
    if "behind" not in names:
        return words[1:], []
    at = names.index("behind")
    return words[1:at], words[at + 1:]


def wrong_in_fold(board, left, words):
    """The sign and why of what is wrong with a fold of what is left of a board, else None."""
    lot, feet = lot_and_feet(words)
    for name, sign in lot:
        if name in board.rim():
            return sign, "pin"
        why = wrong_name(board, left, name)
        if why is not None:
            return sign, why
    for name, sign in feet:
        why = wrong_name(board, left, name)
        if why is not None:
            return sign, why
    near = left.near()
    if not hangs_together(near, names_in(lot)):
        return 1, "apart"
    if sorted(names_in(feet)) != feet_of(near, names_in(lot)):
        return 1, "feet"
    return None


def wrong_in_order(board, left, words):
    """The sign and why of what is wrong with an order in what is left of a board, else None."""
    first = words[1][0]
    for name, sign in words[1:]:
        why = wrong_name(board, left, name)
        if why is not None:
            return sign, why
        if name != first and name not in left.ties_of(first):
            return sign, "tie"
    # They are unlike, and tied to the first one, so somebody lacks just if they are too few.
    return (1, "lacks") if len(words) - 2 < len(left.ties_of(first)) else None


def wrong_in_picture(board, lines):
    """What is wrong with a picture, else None."""
    left = board
    orders = {}
    for index, words in enumerate(lines):
        if words[0][0] == "fold":
            fault = wrong_in_fold(board, left, words)
        else:
            fault = wrong_in_order(board, left, words)
        if fault is not None:
            return (index + 1, *fault)
        if words[0][0] == "fold":
            lot, feet = lot_and_feet(words)
            left = without_piece(left, names_in(lot), sorted(names_in(feet)))
        else:
            orders[words[1][0]] = names_in(words[2:])
    if len(orders) < len(left.places()):
        return len(lines) + 1, 1, "lacks"
    return None if drawing_fault(left, orders) is None else (len(lines) + 1, 1, "faces")


def wrong_in_answer(board, pairs, text):
    """What is wrong with an answer's text for a board, or for a wish's pairs on it, else None."""
    lines = lines_of(text)
    if lines and lines[0][0][0] == "way":
        return wrong_in_cross(board, pairs, lines)
    return wrong_in_picture(board, lines)

"""A board for a code: places are every second part into which strands cut the rim's disc.

A strand leads from the right of each pin to the left of the one it goes on to;
any two cross once where their ends alternate, and never else. The rim is gone
along from end to end, with a row of the strands that have begun and not ended,
and the parts of the disc beside them: parts[k] lies behind k of these strands,
and it is a place if k is odd. The last one lies on the rim.
"""

from mustcross.boards import Board
from mustcross.names import unused_names
from mustcross.ringcodes import next_pins


class Strands:
    """The parts and their ties, as far as the rim was gone along."""

    def __init__(self):
        self._row = []
        self._parts = [0]
        self._many = 1
        self._ties = []

    def _new_part(self):
        self._many = self._many + 1
        return self._many - 1

    def begin(self, end):
        """A strand begins, told by where."""
        self._row.append(end)
        self._parts.append(self._new_part())

    def end(self, begun):
        """The strand that has begun there ends, behind crossing all that have begun since and not ended."""
        at = self._row.index(begun) + 1
        while at < len(self._row):
            self._cross(at)
            at += 1
        self._row.remove(begun)
        self._parts.pop()

    def _cross(self, at):
        ahead = self._parts[at]
        self._parts[at] = self._new_part()
        if at & 1:
            self._ties.append((ahead, self._parts[at]))
        else:
            self._ties.append((self._parts[at - 1], self._parts[at + 1]))

    def last_part(self):
        """The part that lies on the rim now."""
        return self._parts[-1]

    def ties(self):
        """The list of the pairs of parts, each a place, that meet where two strands cross."""
        return list(self._ties)


def beginnings(rim, rings):
    """A list that tells, of the left and the right of each pin, where its strand begins on the way along the rim."""
    onward = next_pins(rings)
    found = [0] * (2 * len(rim))
    for index, pin in enumerate(rim):
        ends = sorted([2 * index + 1, 2 * rim.index(onward[pin])])
        for end in ends:
            found[end] = ends[0]
    return found


def board_by_strands(rim, rings):
    """The board with a rim and its code, without a cross."""
    strands = Strands()
    own = []
    for end, begun in enumerate(beginnings(rim, rings)):
        if end == begun:
            strands.begin(end)
        else:
            strands.end(begun)
        if not end & 1:
            own.append(strands.last_part())
    ties = strands.ties()
    parts = sorted(set([*own, *[part for tie in ties for part in tie]]))
    names = dict(zip(parts, unused_names(rim, len(parts))))
    found = [(names[one], names[other]) for one, other in ties]
    found.extend([(pin, names[part]) for pin, part in zip(rim, own)])
    return Board([*rim, *list(names.values())], found, rim)

"""What may come next in a text that begins with the lines of a board."""

from math import comb

from mustcross.boards import Board
from mustcross.pools import FreeNames, ToldNames


class BoardGrammar:
    """The place, tie and rim lines that were read, and what may come next up to the rim's line."""

    def __init__(self):
        self._near = {}
        self._free = FreeNames()
        self._ties = []
        self._rim = None
        self._kind = ""
        self._row = []

    def is_whole(self):
        """Whether the rim's line stands, the last one."""
        return self._rim is not None

    def board(self):
        """The board that was read."""
        return Board(list(self._near), self._ties, self._rim)

    def words(self):
        """The words with which a line may begin."""
        words = ["rim\n", "place "]
        if self._near:
            words.append("rim ")
        if len(self._ties) < comb(len(self._near), 2):
            words.append("tie ")
        return words

    def names(self):
        """The names that may come next in a line, None at its begin."""
        if self._kind == "":
            return None
        if self._kind == "place":
            return self._free
        if self._kind == "tie":
            return ToldNames(self._tie_places())
        return ToldNames([place for place in self._near if place not in self._row])

    def _tie_places(self):
        if self._row:
            one = self._row[0]
            return [other for other in self._near
                    if other != one and other not in self._near[one]]
        return [one for one in self._near if len(self._near[one]) < len(self._near) - 1]

    def behind(self, name):
        """The words that may come behind a name that may come next."""
        if self._kind == "tie" and not self._row:
            return [" "]
        if self._kind == "rim" and len(self._row) + 1 < len(self._near):
            return ["\n", ", "]
        return ["\n"]

    def take(self, name, word):
        """A name and the word behind it stand, at the begin of a line the word alone."""
        if self._kind == "":
            self._kind = word.strip()
        else:
            self._row.append(name)
        if word.endswith("\n"):
            self._end_line()

    def _end_line(self):
        if self._kind == "place":
            self._near[self._row[0]] = {}
            self._free.leave_out(self._row[0])
        elif self._kind == "tie":
            one, other = self._row
            self._near[one][other] = True
            self._near[other][one] = True
            self._ties.append((one, other))
        else:
            self._rim = self._row
        self._kind = ""
        self._row = []


class BoardThen:
    """A grammar (see scans) of a board's lines, and of other lines behind them.

    These are an object with the methods of a grammar, and with begin(board),
    which is called when the board's lines stand.
    """

    def __init__(self, lines):
        self._first = BoardGrammar()
        self._lines = lines

    def board(self):
        """The board that was read."""
        return self._first.board()

    def _part(self):
        return self._lines if self._first.is_whole() else self._first

    def names(self):
        """The names that may come next, None if words come next."""
        return self._part().names()

    def words(self):
        """The words that may come next where no name does."""
        return self._part().words()

    def behind(self, name):
        """The words that may come behind a name that may come next."""
        return self._part().behind(name)

    def take(self, name, word):
        """A name and the word behind it stand."""
        if self._first.is_whole():
            self._lines.take(name, word)
            return
        self._first.take(name, word)
        if self._first.is_whole():
            self._lines.begin(self._first.board())

    def may_end(self):
        """Whether the text may end here."""
        return self._first.is_whole() and self._lines.may_end()

"""What may come next in the text of an answer."""

from mustcross.answers import told_cross, told_picture
from mustcross.outs import MOST_FEET
from mustcross.pools import FreeNames


class AnswerGrammar:
    """The lines of an answer that were read, and what may come next."""

    def __init__(self):
        self._ways = []
        self._folds = []
        self._orders = {}
        self._free_keys = FreeNames()
        self._free = FreeNames()
        self._kind = ""
        self._row = []
        self._feet = None

    def answer(self):
        """The answer that was read."""
        if self._ways:
            return told_cross(self._ways[0], self._ways[1])
        return told_picture(self._folds, self._orders)

    def may_end(self):
        """Whether the text may end here, if no line has begun."""
        return len(self._ways) != 1

    def words(self):
        """The words with which a line may begin."""
        if self._ways:
            return ["way "] if len(self._ways) == 1 else []
        if self._orders:
            return ["at "]
        if self._folds:
            return ["fold ", "at "]
        return ["way ", "fold ", "at "]

    def names(self):
        """The names that may come next in a line, None at its begin."""
        if self._kind == "":
            return None
        if self._kind == "at" and not self._row:
            return self._free_keys
        return self._free

    def behind(self, name):
        """The words that may come behind a name that may come next."""
        if self._kind == "way":
            return ["\n", ", "] if self._row else [", "]
        if self._kind == "at":
            return ["\n", ", "] if self._row else ["\n", ": "]
        if self._feet is None:
            return ["\n", ", ", " behind "]
        return ["\n", ", "] if len(self._feet) + 1 < MOST_FEET else ["\n"]

    def take(self, name, word):
        """A name and the word behind it stand, at the begin of a line the word alone."""
        if self._kind == "":
            self._begin_line(word.strip())
            return
        self._free.leave_out(name)
        if self._feet is None:
            self._row.append(name)
        else:
            self._feet.append(name)
        if word == " behind ":
            self._feet = []
        if word == "\n":
            self._end_line()

    def _begin_line(self, kind):
        self._kind = kind
        # The two ways have no common place, so they share the names left out.
        if kind != "way":
            self._free = FreeNames()

    def _end_line(self):
        if self._kind == "way":
            self._ways.append(self._row)
        elif self._kind == "fold":
            self._folds.append((self._row, self._feet or []))
        else:
            self._orders[self._row[0]] = self._row[1:]
            self._free_keys.leave_out(self._row[0])
        self._kind = ""
        self._row = []
        self._feet = None

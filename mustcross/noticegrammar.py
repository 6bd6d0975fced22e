"""What may come next in the text of a notice."""

from math import comb

from mustcross.boards import Board
from mustcross.names import told_pair
from mustcross.notices import Notice, told_wish
from mustcross.pools import FreeNames, ToldNames

BEHIND_WISHED = (" ", ", ", " ", "\n")


class OpenWishes:
    """The wishes of some places that did not stand yet."""

    def __init__(self, places):
        self._places = list(places)
        self._stood = {}
        # How many wishes that stood have a pair: it has run out as soon as
        # they are as many as there are pairs of the other places.
        self._with_pair = {}

    def stand(self, wish):
        """The wish, as told, stands now."""
        self._stood[wish] = True
        for pair in wish:
            self._with_pair[pair] = self._with_pair.get(pair, 0) + 1

    def in_order(self):
        """The list of the wishes that stood, in order."""
        return list(self._stood)

    def is_any(self):
        """Whether a wish is left."""
        return len(self._stood) < 3 * comb(len(self._places), 4)

    def _has_pair(self, one, other):
        many = self._with_pair.get(told_pair((one, other)), 0)
        return many < comb(len(self._places) - 2, 2)

    def _goes_on(self, row):
        if len(row) == 2:
            return self._has_pair(row[0], row[1])
        if len(row) == 4:
            return told_wish((row[:2], row[2:])) not in self._stood
        for place in self._places:
            if place not in row and self._goes_on([*row, place]):
                return True
        return False

    def next_places(self, row):
        """The places that may stand behind some of a wish that is left."""
        return [place for place in self._places
                if place not in row and self._goes_on([*row, place])]


class NoticeGrammar:
    """The lines of a notice that were read, and what may come next."""

    def __init__(self):
        self._near = {}
        self._free = FreeNames()
        self._ties = []
        self._rim = None
        self._wishes = None
        self._kind = ""
        self._row = []

    def notice(self):
        """The notice that was read."""
        return Notice(Board(list(self._near), self._ties, self._rim), self._wishes.in_order())

    def may_end(self):
        """Whether the text may end here, if no line has begun."""
        return self._rim is not None

    def words(self):
        """The words with which a line may begin."""
        if self._rim is not None:
            return ["apart "] if self._wishes.is_any() else []
        words = ["rim\n", "place "]
        if self._near:
            words.append("rim ")
        if len(self._ties) < comb(len(self._near), 2):
            words.append("tie ")
        return words

    def names(self):
        """The names that may come next in a line, None at its begin."""
        if self._kind == "":
            return None
        if self._kind == "place":
            return self._free
        if self._kind == "tie":
            return ToldNames(self._tie_places())
        if self._kind == "rim":
            return ToldNames([place for place in self._near if place not in self._row])
        return ToldNames(self._wishes.next_places(self._row))

    def _tie_places(self):
        if self._row:
            one = self._row[0]
            return [other for other in self._near
                    if other != one and other not in self._near[one]]
        return [one for one in self._near if len(self._near[one]) < len(self._near) - 1]

    def behind(self, name):
        """The words that may come behind a name that may come next."""
        if self._kind == "tie" and not self._row:
            return [" "]
        if self._kind == "apart":
            return [BEHIND_WISHED[len(self._row)]]
        if self._kind == "rim" and len(self._row) + 1 < len(self._near):
            return ["\n", ", "]
        return ["\n"]

    def take(self, name, word):
        """A name and the word behind it stand, at the begin of a line the word alone."""
        if self._kind == "":
            self._kind = word.strip()
        else:
            self._row.append(name)
        if word.endswith("\n"):
            self._end_line()

    def _end_line(self):
        if self._kind == "place":
            self._near[self._row[0]] = {}
            self._free.leave_out(self._row[0])
        elif self._kind == "tie":
            one, other = self._row
            self._near[one][other] = True
            self._near[other][one] = True
            self._ties.append((one, other))
        elif self._kind == "rim":
            self._rim = self._row
            self._wishes = OpenWishes(list(self._near))
        else:
            self._wishes.stand(told_wish((self._row[:2], self._row[2:])))
        self._kind = ""
        self._row = []

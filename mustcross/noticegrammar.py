"""What may come next in the lines of wishes, behind those of a board."""

from math import comb

from mustcross.names import told_pair
from mustcross.notices import told_wish
from mustcross.pools import ToldNames

BEHIND_WISHED = (" ", ", ", " ", "\n")


class OpenWishes:
    """The wishes of some places that did not stand yet."""

    def __init__(self, places):
        self._places = list(places)
        self._stood = {}
        # How many wishes that stood have a pair: it has run out as soon as
        # they are as many as there are pairs of the other places.
        self._with_pair = {}

    def stand(self, wish):
        """The wish, as told, stands now."""
        self._stood[wish] = True
        for pair in wish:
            self._with_pair[pair] = self._with_pair.get(pair, 0) + 1

    def in_order(self):
        """The list of the wishes that stood, in order."""
        return list(self._stood)

    def is_any(self):
        """Whether a wish is left."""
        return len(self._stood) < 3 * comb(len(self._places), 4)

    def _has_pair(self, one, other):
        many = self._with_pair.get(told_pair((one, other)), 0)
        return many < comb(len(self._places) - 2, 2)

    def _goes_on(self, row):
        if len(row) == 2:
            return self._has_pair(row[0], row[1])
        if len(row) == 4:
            return told_wish((row[:2], row[2:])) not in self._stood
        for place in self._places:
            if place not in row and self._goes_on([*row, place]):
                return True
        return False

    def next_places(self, row):
        """The places that may stand behind some of a wish that is left."""
        return [place for place in self._places
                if place not in row and self._goes_on([*row, place])]


class WishLines:
    """The lines of wishes that were read, and what may come next."""

    def __init__(self):
        self._wishes = OpenWishes([])
        # The places that stand in a line, None at its begin.
        self._row = None

    def begin(self, board):
        """The lines of the board stand."""
        self._wishes = OpenWishes(board.places())

    def wishes(self):
        """The list of the wishes that were read."""
        return self._wishes.in_order()

    def may_end(self):
        """Whether the text may end here."""
        return self._row is None

    def words(self):
        """The words with which a line may begin."""
        return ["apart "] if self._wishes.is_any() else []

    def names(self):
        """The names that may come next in a line, None at its begin."""
        return None if self._row is None else ToldNames(self._wishes.next_places(self._row))

    def behind(self, name):
        """The words that may come behind a name that may come next."""
        return [BEHIND_WISHED[len(self._row)]]

    def take(self, name, word):
        """A name and the word behind it stand, at the begin of a line the word alone."""
        if self._row is None:
            self._row = []
            return
        self._row.append(name)
        if word == "\n":
            self._wishes.stand(told_wish((self._row[:2], self._row[2:])))
            self._row = None

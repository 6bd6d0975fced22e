"""Boards: places, ties between them, and a rim of pins."""

from mustcross.errors import BadPlaces, BadRim, BadTies, NoPlace
from mustcross.names import first_unknown, first_wrong_name, is_list, is_pair, told_pair


def first_wrong_tie(things, known):
    """The index of the first thing that is no tie, or stood before: 0 for no list, else None."""
    if not is_list(things):
        return 0
    seen = {}
    for index, thing in enumerate(things):
        if not is_pair(thing) or first_unknown(thing, known) is not None:
            return index
        tie = told_pair(thing)
        if tie in seen:
            return index
        seen[tie] = True
    return None


def neighbours(places, ties):
    """A dict from each place to the ascending list of the places tied to it."""
    near = {place: [] for place in places}
    for one, other in ties:
        near[one].append(other)
        near[other].append(one)
    return {place: sorted(near[place]) for place in places}


class Board:
    """Places, ties and a rim; it never changes."""

    def __init__(self, places, ties, rim):
        index = first_wrong_name(places)
        if index is not None:
            raise BadPlaces(index)
        index = first_wrong_tie(ties, places)
        if index is not None:
            raise BadTies(index)
        index = first_unknown(rim, places)
        if index is not None:
            raise BadRim(index)
        self._places = sorted(places)
        self._ties = sorted([told_pair(tie) for tie in ties])
        self._rim = list(rim)
        self._near = neighbours(self._places, self._ties)

    def __eq__(self, other):
        return (isinstance(other, Board) and self._places == other._places
                and self._ties == other._ties and self._rim == other._rim)

    def places(self):
        """The ascending list of all places."""
        return list(self._places)

    def ties(self):
        """The ascending list of all ties."""
        return list(self._ties)

    def rim(self):
        """The list of the pins, in ring order."""
        return list(self._rim)

    def has_place(self, thing):
        """Whether any object is a place of the board."""
        return isinstance(thing, str) and thing in self._near

    def ties_of(self, place):
        """The ascending list of the neighbours of a place."""
        if not self.has_place(place):
            raise NoPlace(place)
        return list(self._near[place])

    def near(self):
        """A new dict from each place to the ascending list of its neighbours."""
        return {place: list(self._near[place]) for place in self._places}

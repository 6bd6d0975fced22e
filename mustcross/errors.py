"""The errors of the package, each with what it is raised for."""


class CrossError(ValueError):
    """What all errors of the package are."""


class BadAnswer(CrossError):
    """For what is no answer."""

    def __init__(self, thing):
        self.thing = thing


class BadBoard(CrossError):
    """For what is no Board."""

    def __init__(self, thing):
        self.thing = thing


class BadCode(CrossError):
    """For what is no code of the rim."""

    def __init__(self, thing):
        self.thing = thing


class BadCross(CrossError):
    """For what is no cross of the board."""

    def __init__(self, thing):
        self.thing = thing


class BadDeed(CrossError):
    """For what is no deed."""

    def __init__(self, thing):
        self.thing = thing


class BadDrawing(CrossError):
    """For what is no drawing of the board."""

    def __init__(self, thing):
        self.thing = thing


class BadLaying(CrossError):
    """For what is no laying of the board."""

    def __init__(self, thing):
        self.thing = thing


class BadLed(CrossError):
    """For the first way that cannot be led through."""

    def __init__(self, index):
        self.index = index


class BadLot(CrossError):
    """For the first thing that makes a list no lot."""

    def __init__(self, index):
        self.index = index


class BadName(CrossError):
    """For what is no name, or none that may be taken here."""

    def __init__(self, thing):
        self.thing = thing


class BadNotice(CrossError):
    """For what is no Notice."""

    def __init__(self, thing):
        self.thing = thing


class BadNumber(CrossError):
    """For what is no number, or too great a one."""

    def __init__(self, thing):
        self.thing = thing


class BadPairs(CrossError):
    """For the first thing that is no pair as it has to be."""

    def __init__(self, index):
        self.index = index


class BadPiece(CrossError):
    """For what is no piece of the board."""

    def __init__(self, thing):
        self.thing = thing


class BadPlace(CrossError):
    """For what is no place on the rim."""

    def __init__(self, thing):
        self.thing = thing


class BadPlaces(CrossError):
    """For the first thing that makes a list no list of places."""

    def __init__(self, index):
        self.index = index


class BadQuestion(CrossError):
    """For what is no question now."""

    def __init__(self, thing):
        self.thing = thing


class BadRim(CrossError):
    """For the first thing that makes a list no rim."""

    def __init__(self, index):
        self.index = index


class BadSession(CrossError):
    """For what is no Session."""

    def __init__(self, thing):
        self.thing = thing


class BadStretch(CrossError):
    """For a stretch that would have all pins."""

    def __init__(self, first, last):
        self.first = first
        self.last = last


class BadTable(CrossError):
    """For what is no table of the rim."""

    def __init__(self, thing):
        self.thing = thing


class BadText(CrossError):
    """For the first wrong sign of a text."""

    def __init__(self, line, sign):
        self.line = line
        self.sign = sign


class BadTies(CrossError):
    """For the first thing that makes a list no list of ties."""

    def __init__(self, index):
        self.index = index


class BadTold(CrossError):
    """For the first thing that makes a list none of told places."""

    def __init__(self, index):
        self.index = index


class BadWays(CrossError):
    """For what are no ways apart."""

    def __init__(self, thing):
        self.thing = thing


class BadWishes(CrossError):
    """For the first thing that makes a list none of wishes."""

    def __init__(self, index):
        self.index = index


class BadWords(CrossError):
    """For the first thing that makes a list none of words."""

    def __init__(self, index):
        self.index = index


class BothPins(CrossError):
    """For two tied pins, which cannot be one place."""

    def __init__(self, one, other):
        self.one = one
        self.other = other


class FewPins(CrossError):
    """For how many pins a board has that wants three."""

    def __init__(self, many):
        self.many = many


class HangsByTwo(CrossError):
    """For the first place that hangs by two."""

    def __init__(self, place):
        self.place = place


class HasCross(CrossError):
    """For a cross of a board that should have none."""

    def __init__(self, ways):
        self.ways = ways


class HasTie(CrossError):
    """For two places that are tied, or one and the same."""

    def __init__(self, one, other):
        self.one = one
        self.other = other


class InUse(CrossError):
    """For a watched question that would be none."""

    def __init__(self, question):
        self.question = question


class IsPin(CrossError):
    """For a pin where none may be asked for."""

    def __init__(self, place):
        self.place = place


class IsWatched(CrossError):
    """For a question that is watched, or held."""

    def __init__(self, question):
        self.question = question


class NoCount(CrossError):
    """For what is no number of done deeds."""

    def __init__(self, thing):
        self.thing = thing


class NoCross(CrossError):
    """For a board without a cross that should have one."""


class NoPin(CrossError):
    """For what is no pin of the board."""

    def __init__(self, thing):
        self.thing = thing


class NoPlace(CrossError):
    """For what is no place of the board."""

    def __init__(self, thing):
        self.thing = thing


class NoTie(CrossError):
    """For two places that are not tied."""

    def __init__(self, one, other):
        self.one = one
        self.other = other


class NotBeside(CrossError):
    """For two boards that are not beside one another."""


class NotWatched(CrossError):
    """For a question that is not watched."""

    def __init__(self, question):
        self.question = question


class NotWithin(CrossError):
    """For a board that cannot be put within the other one."""


class OtherRim(CrossError):
    """For two boards with unlike rims."""


class SamePlace(CrossError):
    """For a place that stood before."""

    def __init__(self, thing):
        self.thing = thing


class WouldChange(CrossError):
    """For a held question that would be answered otherwise."""

    def __init__(self, question, why):
        self.question = question
        self.why = why

"""What several tests need: the boards of the document, odd objects, and slow but plain counts."""

from itertools import combinations
from random import Random

from mustcross.boards import Board
from mustcross.errors import BadLot, CrossError
from mustcross.notices import Notice


def board(places, ties="", rim=""):
    """A board by words: places, ties with commas between, and the rim."""
    pairs = [tie.split() for tie in ties.split(",")] if ties else []
    return Board(places.split(), pairs, rim.split())


N = board("a b c d x y", "a x, b y, c x, d y, x y", "a b c d")
F = board("a b c d u v x", "a u, a x, b u, b x, c x, d x, u v, v x", "a b c d")
Z = board("p q", "p q", "")
W = board("a b c d x", "a x, b x, c x, d x", "a b c d")
EMPTY = board("")
P = board("a b c d e", "a c, b c, c d, d e")
Q = board("a b c d e", "a c, b c, c d, d e, b e")

WORDS = ["place", "tie", "rim", "pair", "way", "fold", "behind", "at", "cross", "none",
         "apart", "not", "watch", "hold"]


def deep(many):
    """A list in a list, so many times."""
    thing = []
    for _ in range(many):
        thing = [thing]
    return thing


def odd_things():
    """Any objects: none of them is a board, a notice, an answer or a place of a board here."""
    return [None, True, False, 0, 1, -1, 10 ** 12, "", "zz", "a b", "A", [], (), {}, [[]], ((),),
            [None], [True], [0], [{}], [["zz"]], ["zz"], ("zz",), {"a": ["b"]}, {1: 2}, deep(100),
            len, lambda: 0, CrossError(), BadLot(0), [CrossError()], [len], [F, N]]


def no_boards():
    """Any objects that are no boards."""
    return [*odd_things(), "a", ["a"], Notice(F, [])]


def no_places():
    """Any objects that are no places of the boards here."""
    return [*odd_things(), F, Notice(F, []), ["a"], ("a",), {"a": 1}, "a\n", " a"]


def no_numbers():
    """Any objects that are no numbers."""
    return [None, True, False, -1, -10 ** 12, "", "1", [], [1], (0,), {}, len, F, CrossError()]


def raised(test, error, call, *things):
    """The error of this very class that a call raises."""
    with test.assertRaises(error) as caught:
        call(*things)
    test.assertIs(caught.exception.__class__, error)
    return caught.exception


def raises_with(test, error, told, call, *things):
    """A call raises an error of this very class with just these equal attributes."""
    test.assertEqual(vars(raised(test, error, call, *things)), told)


def raises_thing(test, error, thing, call, *things):
    """A call raises an error of this very class with the very object."""
    test.assertIs(raised(test, error, call, *things).thing, thing)


def boxes(thing):
    """All lists and dicts in what is told, itself too."""
    if isinstance(thing, dict):
        return [thing] + [box for part in thing.values() for box in boxes(part)]
    if isinstance(thing, (list, tuple)):
        own = [thing] if isinstance(thing, list) else []
        return own + [box for part in thing for box in boxes(part)]
    return []


def told_new(test, call):
    """What is told is the same each time, of lists that are new and stand in one place each."""
    first, again = call(), call()
    test.assertEqual(first, again)
    places = [id(box) for box in boxes(first) + boxes(again)]
    test.assertEqual(len(set(places)), len(places))
    for box in boxes(first):
        box.clear()
    test.assertEqual(call(), again)
    return again


def frozen(thing):
    """What is passed, as a thing that shows later whether it was changed."""
    if isinstance(thing, dict):
        return ("dict", [(key, frozen(part)) for key, part in thing.items()])
    if isinstance(thing, (list, tuple)):
        return (thing.__class__.__name__, [frozen(part) for part in thing])
    return thing


def unchanged(test, call, *things):
    """Calls, and looks whether what was passed stays as it was."""
    ahead = frozen(things)
    told = call(*things)
    test.assertEqual(frozen(things), ahead)
    return told


def tupled(thing):
    """Tuples for lists, at every depth."""
    return tuple(tupled(part) for part in thing) if isinstance(thing, (list, tuple)) else thing


def listed(thing):
    """Lists for tuples, at every depth."""
    return [listed(part) for part in thing] if isinstance(thing, (list, tuple)) else thing


def small_boards(many, most=7, seed=1):
    """Some small boards, always the same ones."""
    chance = Random(seed)
    rows = []
    for _ in range(many):
        places = list("abcdefghij"[:chance.randint(0, most)])
        share = chance.choice([20, 35, 50, 70])
        ties = [tie for tie in combinations(places, 2) if chance.randint(1, 100) <= share]
        pins = chance.sample(places, chance.randint(0, len(places)))
        rows.append(Board(places, ties, pins[:chance.choice([2, 4, 9])]))
    return rows


def cases(many, most=6, seed=3):
    """Small boards with two lots each, in whatever order."""
    chance = Random(seed)
    rows = []
    for of in small_boards(many, most, seed):
        places = of.places()
        for _ in range(3):
            some = chance.sample(places, chance.randint(0, len(places)))
            others = chance.sample(places, chance.randint(0, len(places)))
            rows.append((of, some, others))
        rows.append((of, places, places))
    return rows


def all_subsets(places):
    """All lists of some of the places."""
    return [list(row) for many in range(len(places) + 1) for row in combinations(places, many)]


def all_ways(of, some, others):
    """All ways from some to others."""
    found = []

    def go(way):
        if way[-1] in others:
            found.append(way)
        for place in of.ties_of(way[-1]):
            if place not in way:
                go(way + [place])

    for place in some:
        go([place])
    return found


def most_disjoint(ways):
    """How many of the ways can be taken, no place in two of them."""
    sets = sorted({frozenset(way) for way in ways}, key=len)

    def most(left, at):
        best = 0
        for index in range(at, len(left)):
            if not left[index] & taken[-1]:
                taken.append(taken[-1] | left[index])
                best = max(best, 1 + most(left, index + 1))
                taken.pop()
        return best

    taken = [frozenset()]
    least = [one for one in sets if not any(other < one for other in sets)]
    return most(least, 0)


def is_apart(of, some, others, ways):
    """Whether these are ways from some to others, no place in two of them."""
    places = [place for way in ways for place in way]
    return (len(set(places)) == len(places) and all(way for way in ways)
            and all(way[0] in some and way[-1] in others for way in ways)
            and all(other in of.ties_of(one) for way in ways for one, other in zip(way, way[1:])))


def hangs(of, lot):
    """Whether places, one at least, hang together by their own ties."""
    seen = [lot[0]]
    for place in seen:
        seen.extend(other for other in of.ties_of(place) if other in lot and other not in seen)
    return len(seen) == len(lot)


def feet_around(of, lot):
    """The feet of places, by going through all ties."""
    ends = [(one, other) for one, other in of.ties()] + [(other, one) for one, other in of.ties()]
    return sorted({other for one, other in ends if one in lot and other not in lot})


def all_pieces(of):
    """All pieces, with their feet."""
    inner = [place for place in of.places() if place not in of.rim()]
    found = []
    for lot in all_subsets(inner):
        if lot and hangs(of, lot) and len(feet_around(of, lot)) <= 3:
            found.append((lot, feet_around(of, lot)))
    return found


def fold_by_hand(of, lot):
    """The board with a piece folded away, tie by tie."""
    ties = [tie for tie in of.ties() if not set(tie) & set(lot)]
    for tie in combinations(feet_around(of, lot), 2):
        if tie not in ties:
            ties.append(tie)
    return Board([place for place in of.places() if place not in lot], ties, of.rim())


def two_apart(of, one, two):
    """Whether the places of one and those of two are joined by two ways without a common place."""
    ways = all_ways(of, [one[0]], [one[1]])
    others = all_ways(of, [two[0]], [two[1]])
    return any(not set(way) & set(other) for way in ways for other in others)

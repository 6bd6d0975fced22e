"""Crosses, drawings, bars, rounds, told by looking or by going through all there are: slow but plain."""

from itertools import combinations, permutations, product
from random import Random

from mustcross.boards import Board
from support import all_ways, feet_around, fold_by_hand


def alternates(rim, one, other):
    """Whether four pins, the ends of two ways, alternate as one goes round the rim."""
    row = [pin in one for pin in rim if pin in (*one, *other)]
    return len(row) == 4 and row[0] != row[1] != row[2] != row[3]


def is_way(of, way):
    """Whether a list is a way of a board."""
    return (len(way) > 0 and len(set(way)) == len(way) and set(way) <= set(of.places())
            and all(other in of.ties_of(one) for one, other in zip(way, way[1:])))


def is_cross_of(of, ways):
    """Whether two ways are a cross of a board, by looking."""
    ends = [way[0] for way in ways] + [way[-1] for way in ways]
    return (len(ways) == 2 and all(is_way(of, way) for way in ways) and not set(ways[0]) & set(ways[1])
            and set(ends) <= set(of.rim()) and len(set(ends)) == 4
            and alternates(of.rim(), (ways[0][0], ways[0][-1]), (ways[1][0], ways[1][-1])))


def least_sets(ways):
    """The sets of places of the ways that have no other one's within them."""
    sets = {frozenset(way) for way in ways}
    return [one for one in sets if not any(other < one for other in sets)]


def joined_by_hand(of, pairs):
    """Whether all pairs can be joined by ways without a common place, by going through all ways."""
    rows = [least_sets(all_ways(of, [one], [other])) for one, other in pairs]

    def go(at, used):
        return at == len(rows) or any(go(at + 1, used | one) for one in rows[at] if not used & one)

    return go(0, frozenset())


def crosses_by_hand(of):
    """Whether there is a cross, by going through all ways between pins."""
    return any(joined_by_hand(of, [(p, r), (q, s)]) for p, q, r, s in combinations(of.rim(), 4))


def part_of(near, start):
    """All places that hang together with one."""
    seen = [start]
    for place in seen:
        seen.extend(other for other in near[place] if other not in seen)
    return seen


def rings_of(of, orders):
    """The rings round all places and the outside, which is called rim."""
    rings = {place: list(orders[place]) for place in of.places()}
    for pin in of.rim():
        rings[pin].insert(0, "rim")
    return {**rings, "rim": of.rim()[::-1]}


def walk(of, orders):
    """All faces, each as the set of its steps."""
    rings = rings_of(of, orders)
    left = {(one, other) for one, ring in rings.items() for other in ring}
    found = []
    while left:
        step = min(left)
        face = []
        while step in left:
            left.discard(step)
            face.append(step)
            one, other = step
            ring = rings[other]
            step = (other, ring[(ring.index(one) + 1) % len(ring)])
        found.append(face)
    return found


def euler(of, orders):
    """How many faces Euler counts."""
    rings = rings_of(of, orders)
    parts = {frozenset(part_of(rings, place)) for place in rings if rings[place]}
    return sum(2 - len(part) + sum(len(rings[place]) for place in part) // 2 for part in parts)


def is_drawing_of(of, orders):
    """Whether a dict is a drawing of a board, by looking."""
    return (list(orders) == of.places() and all(sorted(orders[place]) == of.ties_of(place) for place in orders)
            and len(walk(of, orders)) == euler(of, orders))


def is_told_drawing(of, orders):
    """Whether a dict is a drawing of a board as it is told."""
    inner = [place for place in of.places() if place not in of.rim()]
    return (is_drawing_of(of, orders) and all(isinstance(order, list) for order in orders.values())
            and all(orders[place][:1] == of.ties_of(place)[:1] for place in inner))


def all_orders(of, most=3000):
    """All dicts of orders as they are told, None if there are too many."""
    rows = []
    many = 1
    for place in of.places():
        near = of.ties_of(place)
        if place in of.rim():
            rows.append([list(row) for row in permutations(near)])
        else:
            rows.append([near[:1] + list(row) for row in permutations(near[1:])])
        many *= len(rows[-1])
        if many > most:
            return None
    return [dict(zip(of.places(), row)) for row in product(*rows)]


def all_drawings(of, most=3000):
    """All drawings as they are told, None if there is too much to go through."""
    rows = all_orders(of, most)
    return rows and [row for row in rows if is_drawing_of(of, row)]


def is_picture_of(of, thing):
    """Whether a pair is a picture of a board as it is told, by looking."""
    folds, orders = thing
    for lot, feet in folds:
        if lot != sorted(lot) or (lot, feet) not in all_pieces_of(of, lot):
            return False
        of = fold_by_hand(of, lot)
    return is_told_drawing(of, orders)


def all_pieces_of(of, lot):
    """A lot and its feet in a list, if it is a piece; else none."""
    whole = Board(of.places(), [tie for tie in of.ties() if set(tie) <= set(lot)], [])
    feet = feet_around(of, lot)
    hangs = sorted(part_of(whole.near(), lot[0])) == lot
    return [(lot, feet)] if hangs and len(feet) < 4 and not set(lot) & set(of.rim()) else []


def closed_ties(of):
    """The ties of the closed board, each as a set."""
    rim = of.rim()
    ties = {frozenset(tie) for tie in of.ties()} | {frozenset([pin, "rim"]) for pin in rim}
    return ties | {frozenset(row) for row in zip(rim, rim[1:] + rim[:1]) if row[0] != row[1]}


def is_bar_of(of, thing):
    """Whether a triple bars a drawing of a board, by looking."""
    kind, places, ways = thing
    if kind == "five":
        due = list(combinations(range(5), 2))
    else:
        due = list(product(range(3), range(3, 6)))
    ties = closed_ties(of)
    inside = [place for way in ways for place in way[1:-1]]
    return (kind in ("five", "three") and len(places) == (5 if kind == "five" else 6)
            and [(way[0], way[-1]) for way in ways] == [(places[one], places[other]) for one, other in due]
            and all(frozenset(step) in ties for way in ways for step in zip(way, way[1:]))
            and len(set(places)) == len(places) and not set(inside) & set(places)
            and len(set(inside)) == len(inside))


def all_rounds(of):
    """All sets of places of rounds."""
    found = set()

    def go(way):
        for place in of.ties_of(way[-1]):
            if place == way[0] and len(way) > 2:
                found.add(frozenset(way))
            elif place > way[0] and place not in way:
                go(way + [place])

    for place in of.places():
        go([place])
    return found


def triangles(inner, pins, chance):
    """The ties of a disc full of triangles: places q0, q1, .. on its edge, v0, v1, .. within."""
    left = [("q0", f"q{at}", f"q{at + 1}") for at in range(1, pins - 1)]
    ties = {tuple(sorted(tie)) for row in left for tie in combinations(row, 2)}
    for at in range(inner):
        one, other, third = left.pop(chance.randrange(len(left)))
        new = f"v{at}"
        left += [(new, one, other), (new, other, third), (new, one, third)]
        ties |= {tuple(sorted((new, place))) for place in (one, other, third)}
        for _ in range(3):
            turn_tie(left, ties, chance.choice(sorted(ties)))
    return sorted(ties)


def turn_tie(left, ties, tie):
    """Puts the other tie of two triangles beside one another in the place of the one between them."""
    beside = [row for row in left if set(tie) <= set(row)]
    if len(beside) == 2:
        tops = tuple(sorted((set(beside[0]) | set(beside[1])) - set(tie)))
        if tops not in ties:
            ties.discard(tie)
            ties.add(tops)
            for row in beside:
                left.remove(row)
            left += [(*tops, tie[0]), (*tops, tie[1])]


def flat_board(seed, inner, pins, share=100, pieces=0):
    """A board without a cross, some ties left out, some pieces put in whose insides are not flat."""
    chance = Random(seed)
    ties = triangles(inner, pins, chance)
    near = Board(sorted({place for tie in ties for place in tie}), ties, [])
    rows = [row for row in combinations(near.places(), 3)
            if all(other in near.ties_of(one) for one, other in combinations(row, 2))]
    ties = [tie for tie in ties if chance.randrange(100) < share]
    places = near.places()
    for at in range(pieces):
        new = [f"k{at}{part}" for part in range(4)]
        feet = chance.choice(rows)
        ties += list(combinations(new, 2))
        ties += [(one, other) for one in new for other in feet if chance.randrange(100) < 70]
        places = places + new
    return Board(places, ties, [f"q{at}" for at in range(pins)])


def grid(wide, high, crossed=(), rim=None):
    """A board of wide by high places p00, p10, .., with ties across in told fields; its rim is its edge."""
    names = {(x, y): f"p{x}{y}" for x in range(wide) for y in range(high)}
    ties = [(names[x, y], names[x + 1, y]) for x in range(wide - 1) for y in range(high)]
    ties += [(names[x, y], names[x, y + 1]) for x in range(wide) for y in range(high - 1)]
    for x, y in crossed:
        ties += [(names[x, y], names[x + 1, y + 1]), (names[x + 1, y], names[x, y + 1])]
    edge = [(0, y) for y in range(high)] + [(x, high - 1) for x in range(1, wide)]
    edge += [(wide - 1, y) for y in range(high - 2, -1, -1)] + [(x, 0) for x in range(wide - 2, 0, -1)]
    corners = [(0, 0), (0, high - 1), (wide - 1, high - 1), (wide - 1, 0)]
    return Board(list(names.values()), ties, [names[at] for at in (corners if rim == "corners" else edge)])


def crossed_grid(seed, wide, high):
    """A grid with ties across in one field, some ties left out, some places of its edge as pins."""
    chance = Random(seed)
    whole = grid(wide, high, [(chance.randrange(wide - 1), chance.randrange(high - 1))])
    ties = [tie for tie in whole.ties() if chance.random() < .9]
    rim = whole.rim()
    pins = sorted(chance.sample(range(len(rim)), chance.choice([4, 4, 5, 6])))
    return Board(whole.places(), ties, [rim[at] for at in pins])


def random_board(seed, many, ties, pins):
    """A board of so many places, ties and pins."""
    chance = Random(seed)
    places = [f"p{at}" for at in range(many)]
    return Board(places, chance.sample(list(combinations(places, 2)), ties), chance.sample(places, pins))


def with_rim(of, rim):
    """The board with another rim."""
    return Board(of.places(), of.ties(), rim)


def parted_rim(pins, sizes, seed=1):
    """A full board: a rim of three pins or more parted into triangles, lots of told sizes behind some, all tied."""
    chance = Random(seed)
    rim = [f"q{at}" for at in range(pins)]
    rows, left = [], [rim]
    while left:
        row = left.pop()
        if len(row) > 2:
            at = chance.randrange(1, len(row) - 1)
            rows.append((row[0], row[at], row[-1]))
            left += [row[:at + 1], row[at:]]
    ties = {tuple(sorted(tie)) for row in rows for tie in combinations(row, 2)}
    lots = [[f"v{at}{part}" for part in range(size)] for at, size in enumerate(sizes)]
    for lot, row in zip(lots, chance.sample(rows, len(lots))):
        ties |= set(combinations(sorted(lot + list(row)), 2))
    return Board(rim + [place for lot in lots for place in lot], sorted(ties), rim)


def hung_ways(seed, one, other, pieces):
    """A board of two ways of so many places that cross, and pieces of three places hung on one place each."""
    chance = Random(seed)
    ways = [[f"{name}{at}" for at in range(many)] for name, many in [("a", one), ("b", other)]]
    ties = [step for way in ways for step in zip(way, way[1:])]
    places = ways[0] + ways[1]
    for at in range(pieces):
        row = [f"k{at}{part}" for part in range(3)]
        places = places + row
        ties += [*combinations(row, 2), *[(chance.choice(ways[0] + ways[1]), row[0])]]
    return Board(places, ties, [ways[0][0], ways[1][0], ways[0][-1], ways[1][-1]])


def pinned_boards(many, most, seed):
    """Some small boards with four pins or more, with crosses and without."""
    chance = Random(seed)
    found = []
    for _ in range(many):
        places = list("abcdefghij"[:chance.randint(4, most)])
        share = chance.choice([20, 35, 50])
        ties = [tie for tie in combinations(places, 2) if chance.randrange(100) < share]
        found.append(Board(places, ties, chance.sample(places, chance.randint(4, min(6, len(places))))))
    return found

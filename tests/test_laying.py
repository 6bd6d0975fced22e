"""Points 42, 43 and 44: boards with one drawing, and boards laid straight."""

import unittest
from fractions import Fraction
from itertools import combinations, permutations
from random import Random

from byhand import all_drawings, flat_board, is_told_drawing, triangles
from mustcross.boards import Board
from mustcross.drawings import drawing
from mustcross.errors import BadBoard, BadLaying, FewPins, HangsByTwo
from mustcross.laying import laid, laying_fault, read_off
from support import (EMPTY, F, N, W, Z, all_pieces, board, listed, no_boards, odd_things, raised, raises_thing,
                     raises_with, small_boards, told_new, unchanged)

LAID_W = {"a": ((0, 1), (0, 1)), "b": ((1, 1), (-1, 1)), "c": ((2, 1), (-4, 1)), "d": ((3, 1), (-9, 1)),
          "x": ((3, 2), (-7, 2))}
THREE = board("a b c x y", "a x, b x, c x, x y, a y, b y", "a b c")
SMALL = [of for of in small_boards(3000, 8, 111) if len(of.rim()) > 2]


def full_disc(inner, pins, seed):
    """A disc full of triangles."""
    rim = [f"q{at}" for at in range(pins)]
    return Board(rim + [f"v{at}" for at in range(inner)], triangles(inner, pins, Random(seed)), rim)


FULL = [full_disc(inner, pins, seed) for seed, (inner, pins) in
        enumerate([(1, 3), (3, 3), (6, 4), (9, 5), (12, 8), (16, 4), (16, 6), (16, 12), (16, 24)])]


def hanging(of):
    """The first place that a piece of at most two feet has, None if there is none."""
    return min([place for lot, feet in all_pieces(of) if len(feet) < 3 for place in lot], default=None)


def points_of(laying):
    return {place: tuple(Fraction(*part) for part in point) for place, point in laying.items()}


def told_points(points):
    return {place: tuple((part.numerator, part.denominator) for part in points[place]) for place in points}


def turn(one, other, third):
    return (other[0] - one[0]) * (third[1] - one[1]) - (other[1] - one[1]) * (third[0] - one[0])


def meet(one, other):
    """All points that two straight ties have in common: None, one point, or True for more."""
    (a, b), (c, d) = one, other
    if turn(a, b, c) == turn(a, b, d) == 0:
        low, high = max(min(a, b), min(c, d)), min(max(a, b), max(c, d))
        return None if low > high else low if low == high else True
    way, across = (b[0] - a[0], b[1] - a[1]), (d[0] - c[0], d[1] - c[1])
    under = way[0] * across[1] - way[1] * across[0]
    if under == 0:
        return None
    share = ((c[0] - a[0]) * across[1] - (c[1] - a[1]) * across[0]) / under
    part = ((c[0] - a[0]) * way[1] - (c[1] - a[1]) * way[0]) / under
    return (a[0] + share * way[0], a[1] + share * way[1]) if 0 <= share <= 1 and 0 <= part <= 1 else None


def fault_by_hand(of, laying):
    """What is wrong with a laying of points."""
    points, rim = points_of(laying), of.rim()
    for pin in sorted(rim):
        if points[pin] != (rim.index(pin), -rim.index(pin) ** 2):
            return ("pin", pin)
    corners = [points[pin] for pin in rim]
    for place in of.places():
        sides = [turn(one, other, points[place]) for one, other in zip(corners, corners[1:] + corners[:1])]
        if place not in rim and max(sides) >= 0:
            return ("out", place)
    for one, other in combinations(of.places(), 2):
        if points[one] == points[other]:
            return ("same", one, other)
    for one, other in combinations(of.ties(), 2):
        told = meet([points[place] for place in one], [points[place] for place in other])
        if told is not None and told not in [points[place] for place in one if place in other]:
            return ("touch", one, other)
    return None


class LaidTest(unittest.TestCase):
    def test_example(self):
        self.assertEqual(laid(W), LAID_W)
        raises_with(self, HangsByTwo, {"place": "v"}, laid, F)
        self.assertEqual(list(laid(W)), W.places())

    def look(self, of):
        told = laid(of)
        self.assertIsNone(laying_fault(of, told))
        self.assertIsNone(fault_by_hand(of, told))
        self.assertEqual(list(told), of.places())
        points = points_of(told)
        self.assertEqual(told_points(points), told)
        for place in of.places():
            near = of.ties_of(place)
            if place not in of.rim():
                for axis in (0, 1):
                    self.assertEqual(sum(points[other][axis] for other in near), len(near) * points[place][axis])
        self.assertTrue(all(isinstance(part, tuple) for point in told.values() for part in (point, *point)))
        self.assertTrue(is_told_drawing(of, read_off(of, told)))
        self.assertEqual(read_off(of, told), drawing(of))

    def test_small_boards(self):
        seen = {"laid": 0, "none": 0, "hangs": 0}
        for of in SMALL:
            first = hanging(of)
            if first is not None:
                seen["hangs"] += 1
                raises_with(self, HangsByTwo, {"place": first}, laid, of)
            elif drawing(of) is None:
                seen["none"] += 1
                self.assertIsNone(laid(of))
            else:
                seen["laid"] += len(of.rim()) < len(of.places())
                self.look(of)
        self.assertGreater(min(seen.values()), 15)

    def test_great_boards(self):
        for of in FULL:
            self.look(of)

    def test_one_drawing_or_none(self):
        seen = 0
        for of in [*SMALL, THREE, W]:
            if hanging(of) is None and (rows := all_drawings(of, 500)) is not None:
                seen += len(rows)
                self.assertLessEqual(len(rows), 1)
        self.assertGreater(seen, 100)

    def test_hangs_by_two(self):
        for ties, rim, place in [("a x, b x", "a b c", "x"), ("", "a b c", "x"), ("a x", "a b c", "x"),
                                 ("a x, x y, b y, c y, a b", "a b c", "x"), ("x y", "a b c", "x")]:
            raises_with(self, HangsByTwo, {"place": place}, laid, board("a b c x y", ties, rim))
        hanging_and_crossed = board("a b c d z", "a c, b d", "a b c d")
        raises_with(self, HangsByTwo, {"place": "z"}, laid, hanging_and_crossed)
        self.assertIsNone(laid(board("a b c d", "a c, b d", "a b c d")))
        self.assertIsNone(laid(board("a b c x y z", "a x, b x, c x, a y, b y, c y, a z, b z, c z", "a b c")))

    def test_no_places_but_pins(self):
        of = board("a b c d", "a c, a b", "b a d c")
        self.assertEqual(laid(of), {"a": ((1, 1), (-1, 1)), "b": ((0, 1), (0, 1)), "c": ((3, 1), (-9, 1)),
                                    "d": ((2, 1), (-4, 1))})

    def test_few_pins_and_bad_board(self):
        for thing in no_boards():
            raises_thing(self, BadBoard, thing, laid, thing)
            raises_thing(self, BadBoard, thing, laying_fault, thing, None)
            raises_thing(self, BadBoard, thing, read_off, thing, None)
        for of, many in [(EMPTY, 0), (Z, 0), (board("p", "", "p"), 1), (board("a b x", "a x", "b a"), 2)]:
            raises_with(self, FewPins, {"many": many}, laid, of)
            raises_with(self, FewPins, {"many": many}, laying_fault, of, None)
            raises_with(self, FewPins, {"many": many}, read_off, of, {})

    def test_told_new_and_the_same(self):
        told_new(self, lambda: laid(W))
        told_new(self, lambda: read_off(W, LAID_W))
        again = Board(W.places()[::-1], W.ties()[::-1], W.rim())
        laid(FULL[3])
        self.assertEqual(laid(again), LAID_W)


class LayingFaultTest(unittest.TestCase):
    def at(self, **changed):
        return {**LAID_W, **{place: told_points({0: tuple(map(Fraction, point))})[0]
                             for place, point in changed.items()}}

    def test_lists_and_tuples_and_whatever_order(self):
        self.assertIsNone(laying_fault(W, LAID_W))
        self.assertIsNone(laying_fault(W, {place: listed(LAID_W[place]) for place in "xdcba"}))
        self.assertIsNone(laying_fault(W, self.at(x=(1, -2))))
        unchanged(self, laying_fault, W, {place: listed(LAID_W[place]) for place in "xdcba"})

    def test_form(self):
        less = {place: LAID_W[place] for place in "abcd"}
        for thing in [*odd_things(), less, {**LAID_W, "zz": LAID_W["x"]}, {**less, "zz": LAID_W["x"]}, {**less, 1: 2},
                      list(LAID_W.items()), W]:
            self.assertEqual(laying_fault(W, thing), ("form",))
        over = (-7, 2)
        for point in [None, (), ((3, 2),), ((3, 2), over, over), "xy", (3, 2), ((3, 2), None), ((3,), over),
                      {1: 2, 3: 4},
                      ((6, 4), over), ((-3, -2), over), ((3, 0), over), ((1, 0), over), ((0, 2), over),
                      ((3, 2, 1), over),
                      (("3", 2), over), ((True, 1), over), ((1, True), over), ((3, None), over), ((3, [2]), over),
                      ((3, 2), (7, -2)), ((3, 2), (-14, 4)), (3, over), ([3, 2], "-7"), ((0, 0), over)]:
            self.assertEqual(laying_fault(W, {**LAID_W, "x": point}), ("form",), point)

    def test_pin(self):
        self.assertEqual(laying_fault(W, self.at(a=(0, 1))), ("pin", "a"))
        self.assertEqual(laying_fault(W, self.at(d=(3, 9), c=(2, -5), x=(50, 50))), ("pin", "c"))
        turned = board("a b c d x", "a x, b x, c x, d x", "b c d a")
        self.assertEqual(laying_fault(turned, LAID_W), ("pin", "a"))

    def test_out(self):
        for point in [(0, 0), (1, -1), (3, 0), (1, -3), (2, -6), (Fraction(1, 2), Fraction(-1, 2)), (5, 5), (3, -9),
                      (Fraction(1, 2), Fraction(-1, 3))]:
            self.assertEqual(laying_fault(W, self.at(x=point)), ("out", "x"), point)
        more = board("a b c d x y", "a x, b x, c x, d x", "a b c d")
        thing = {**LAID_W, "x": ((9, 1), (9, 1)), "y": ((8, 1), (8, 1))}
        self.assertEqual(laying_fault(more, thing), ("out", "x"))
        self.assertEqual(laying_fault(more, {**thing, "x": LAID_W["x"]}), ("out", "y"))

    def test_same(self):
        more = board("a b c d x y z", "x y, y z", "a b c d")
        thing = {**LAID_W, "y": LAID_W["x"], "z": LAID_W["x"]}
        self.assertEqual(laying_fault(more, thing), ("same", "x", "y"))
        self.assertEqual(laying_fault(more, {**thing, "x": ((1, 1), (-2, 1))}), ("same", "y", "z"))

    def test_touch(self):
        more = board("a b c d x y", "a c, b d, x y", "a b c d")
        near = {**LAID_W, "y": ((3, 2), (-4, 1))}
        self.assertEqual(laying_fault(more, near), ("touch", ("a", "c"), ("b", "d")))
        line = board("a b c d x y", "a c, x y", "a b c d")
        points = {**LAID_W, "x": ((1, 1), (-2, 1)), "y": ((2, 1), (-5, 1))}
        self.assertEqual(laying_fault(line, points), ("touch", ("a", "c"), ("x", "y")))
        on_line = {**points, "y": ((3, 2), (-3, 1))}
        self.assertEqual(laying_fault(line, on_line), ("touch", ("a", "c"), ("x", "y")))
        one_way = board("a b c d x y", "a x, a y", "a b c d")
        self.assertEqual(laying_fault(one_way, on_line), ("touch", ("a", "x"), ("a", "y")))
        through = board("a b c d x y", "a x, x y", "a b c d")
        self.assertIsNone(laying_fault(through, on_line))
        alone = board("a b c d x y", "a c", "a b c d")
        self.assertIsNone(laying_fault(alone, on_line))

    def test_touch_in_one_line(self):
        of = board("a b c d e w x y z", "w x, y z", "a b c d e")
        corners = [(at, -at * at) for at in range(5)]
        for way in [(0, 1), (1, 0), (1, -4), (2, 1)]:
            for shares in [(0, 2, 1, 3), (0, 3, 1, 2), (1, 2, 0, 3), (2, 3, 0, 1), (3, 0, 2, 1), (0, 1, 3, 2),
                           (3, 2, 1, 0)]:
                points = dict(zip("abcde", corners))
                points |= {place: (2 + Fraction(way[0] * share, 20), -6 + Fraction(way[1] * share, 20))
                           for place, share in zip("wxyz", shares)}
                thing = told_points({place: tuple(map(Fraction, point)) for place, point in points.items()})
                apart = max(shares[:2]) < min(shares[2:]) or max(shares[2:]) < min(shares[:2])
                self.assertEqual(laying_fault(of, thing), None if apart else ("touch", ("w", "x"), ("y", "z")))
                star = board("a b c d e w x y z", "w x, w y", "a b c d e")
                one, other = shares[1] - shares[0], shares[2] - shares[0]
                due = ("touch", ("w", "x"), ("w", "y")) if one * other > 0 else None
                self.assertEqual(laying_fault(star, thing), due)

    def test_ties_close_to_one_another(self):
        of = board("a b c d e f g h i w x y z", "w x, y z", "a b c d e f g h i")
        corners = {pin: ((at, 1), (-at * at, 1)) for at, pin in enumerate("abcdefghi")}
        for start, way in [((4, -24), (0, 1)), ((3, -16), (1, -8))]:
            for shares in permutations(range(4)):
                points = {place: (((start[0] + way[0] * share), 1), (start[1] + way[1] * share, 1))
                          for place, share in zip("wxyz", shares)}
                apart = max(shares[:2]) < min(shares[2:]) or max(shares[2:]) < min(shares[:2])
                told = laying_fault(of, {**corners, **points})
                self.assertEqual(told, None if apart else ("touch", ("w", "x"), ("y", "z")))
        beside = {"w": ((4, 1), (-24, 1)), "x": ((4, 1), (-23, 1)), "y": ((5, 1), (-30, 1)), "z": ((5, 1), (-31, 1))}
        self.assertIsNone(laying_fault(of, {**corners, **beside}))

    def test_by_hand(self):
        chance = Random(112)
        faults = {}
        boards = [of for of in [*SMALL, *FULL[:5]] if len(of.rim()) < len(of.places())][-60:]
        for of in boards:
            wide = len(of.rim())
            for _ in range(25):
                points = {}
                for place in of.places():
                    if place in of.rim() and chance.randrange(60):
                        points[place] = (Fraction(of.rim().index(place)), Fraction(-of.rim().index(place) ** 2))
                    else:
                        across = Fraction(chance.randint(1, 4 * wide), 4)
                        points[place] = (across, -across * chance.randint(1, 2 * wide) / 2)
                thing = told_points(points)
                told = laying_fault(of, thing)
                self.assertEqual(told, fault_by_hand(of, thing))
                faults[told and told[0]] = faults.get(told and told[0], 0) + 1
                if told is None:
                    self.assertTrue(is_told_drawing(of, read_off(of, thing)))
        self.assertEqual(set(faults), {None, "pin", "out", "same", "touch"})

    def test_long_numbers(self):
        long = 10 ** 29 + 7
        self.assertIsNone(laying_fault(W, {**LAID_W, "x": ((3 * long + 2, 2 * long), (-7, 2))}))
        self.assertEqual(laying_fault(W, {**LAID_W, "x": ((long + 1, long), (-long - 1, long))}), ("out", "x"))


class ReadOffTest(unittest.TestCase):
    def test_order_is_clockwise(self):
        self.assertEqual(read_off(W, LAID_W)["x"], ["a", "b", "c", "d"])
        self.assertEqual(read_off(THREE, laid(THREE)), drawing(THREE))
        chord = board("a b c d", "a b, a c, a d", "a b c d")
        self.assertEqual(read_off(chord, laid(chord))["a"], ["b", "c", "d"])

    def test_ties_in_whatever_directions(self):
        ways = [(-2, 1), (0, 2), (2, 1), (3, 0), (2, -1), (0, -1), (-1, -1), (-1, 0), (1, 2), (-3, -1)]
        clockwise = [(-1, 0), (-2, 1), (0, 2), (1, 2), (2, 1), (3, 0), (2, -1), (0, -1), (-1, -1), (-3, -1)]
        points = {pin: (Fraction(at), Fraction(-at * at)) for at, pin in enumerate("abcde")}
        chance = Random(113)
        for many in range(1, 11):
            row = chance.sample(ways, many)
            of = Board(list("abcdex") + [f"y{at}" for at in range(many)], [("x", f"y{at}") for at in range(many)],
                       list("abcde"))
            thing = {**points, "x": (Fraction(2), Fraction(-6))}
            thing |= {f"y{at}": (2 + Fraction(way[0], 20), -6 + Fraction(way[1], 20)) for at, way in enumerate(row)}
            order = [f"y{row.index(way)}" for way in clockwise if way in row]
            at = order.index("y0")
            self.assertEqual(read_off(of, told_points(thing))["x"], order[at:] + order[:at])

    def test_boards_that_hang_by_two(self):
        of = board("a b c d x y z", "x y, b y", "a b c d")
        thing = {**LAID_W, "x": ((1, 1), (-2, 1)), "y": ((3, 2), (-3, 1)), "z": ((3, 2), (-7, 2))}
        told = read_off(of, thing)
        self.assertTrue(is_told_drawing(of, told))
        self.assertEqual(told["y"], ["b", "x"])
        self.assertEqual(told["z"], [])

    def test_bad_laying(self):
        for thing in [*odd_things(), {**LAID_W, "x": ((9, 1), (9, 1))}, {}, LAID_W["x"]]:
            raises_thing(self, BadLaying, thing, read_off, W, thing)
        raised(self, BadLaying, read_off, N, {})
        unchanged(self, read_off, W, {place: listed(LAID_W[place]) for place in "xdcba"})

    def test_greater_boards_moved_a_little(self):
        for seed in range(4):
            of = flat_board(seed, 10, 5, 100)
            told = laid(of)
            moved = points_of(told)
            place = [place for place in of.places() if place not in of.rim()][seed]
            moved[place] = (moved[place][0] + Fraction(1, 10 ** 12), moved[place][1])
            thing = told_points(moved)
            self.assertIsNone(laying_fault(of, thing))
            self.assertEqual(read_off(of, thing), drawing(of))


if __name__ == "__main__":
    unittest.main()

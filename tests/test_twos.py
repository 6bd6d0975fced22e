"""Points 45, 46 and 52: two told pairs of places, all twos of pins, calm pins."""

import unittest
from itertools import combinations, permutations
from random import Random

from byhand import (crossed_grid, crosses_by_hand, flat_board, grid, is_picture_of, is_way, joined_by_hand,
                    random_board)
from mustcross.boards import Board
from mustcross.crosses import cross
from mustcross.errors import BadBoard, BadPairs
from mustcross.pictures import picture
from mustcross.twos import calm_pins, pairings, two_board, two_joined, two_picture
from support import (EMPTY, F, N, W, Z, board, no_boards, no_places, odd_things, raised, raises_thing, raises_with,
                     small_boards, told_new, tupled, unchanged)

BOARDS = [of for of in small_boards(150, 7, 121) if len(of.places()) > 3]
PINS = [F, N, W, Z, EMPTY, board("a b c d", "a c, b d", "a b c d"), *small_boards(150, 7, 122),
        *[crossed_grid(seed, 3, 4) for seed in (45, 60, 333, 336)]]


def some_twos(of, many, seed=1):
    """Some pairs of pairs of four unlike places."""
    chance = Random(seed)
    rows = [chance.sample(of.places(), 4) for _ in range(many)]
    return [((a, b), (c, d)) for a, b, c, d in rows]


class TwoJoinedTest(unittest.TestCase):
    def look(self, of, one, two):
        told, other = two_joined(of, one, two), two_picture(of, one, two)
        self.assertNotEqual(told is None, other is None)
        if told is None:
            self.assertTrue(is_picture_of(two_board(of, one, two), other))
            return False
        self.assertIsInstance(told, tuple)
        self.assertTrue(all(isinstance(way, list) and is_way(of, way) for way in told))
        self.assertEqual([(way[0], way[-1]) for way in told], [tuple(one), tuple(two)])
        self.assertFalse(set(told[0]) & set(told[1]))
        return True

    def test_example(self):
        self.assertEqual(two_joined(N, ("a", "x"), ("d", "b")), (["a", "x"], ["d", "y", "b"]))
        self.assertEqual(two_joined(N, ["d", "b"], ["x", "a"]), (["d", "y", "b"], ["x", "a"]))

    def test_just_one_by_all_ways(self):
        seen = [0, 0]
        for of in BOARDS:
            for one, two in some_twos(of, 12):
                there = self.look(of, one, two)
                self.assertEqual(there, joined_by_hand(of, [one, two]))
                seen[there] += 1
        self.assertGreater(min(seen), 200)

    def test_in_whatever_order(self):
        for of in BOARDS[:40]:
            for one, two in some_twos(of, 3):
                due = two_joined(of, one, two) is not None
                for pair, other in [(one[::-1], two), (one, two[::-1]), (two, one), (list(two)[::-1], one[::-1])]:
                    self.assertEqual(self.look(of, pair, other), due)

    def test_whatever_the_rim(self):
        for of in BOARDS[:60]:
            for one, two in some_twos(of, 3):
                first = two_joined(of, one, two)
                for rim in [[], of.places(), of.places()[::-1][:3]]:
                    self.assertEqual(two_joined(Board(of.places(), of.ties(), rim), one, two), first)

    def test_great_boards(self):
        chance = Random(9)
        for of in [grid(6, 6), grid(5, 8, [(1, 1), (3, 5)]), random_board(1, 40, 60, 4), random_board(2, 40, 100, 0),
                   random_board(3, 40, 500, 9), flat_board(3, 22, 6, 90, 3), flat_board(4, 30, 10, 100)]:
            seen = [self.look(of, (a, b), (c, d)) for a, b, c, d in
                    [chance.sample(of.places(), 4) for _ in range(25)]]
            self.assertTrue(any(seen))

    def test_trees_and_parts(self):
        tree = board("a b c d x y", "a x, b x, x y, c y, d y")
        self.assertTrue(self.look(tree, ("a", "b"), ("c", "d")))
        self.assertFalse(self.look(tree, ("a", "c"), ("b", "d")))
        parts = board("a b c d", "a b, c d")
        self.assertTrue(self.look(parts, ("b", "a"), ("c", "d")))
        self.assertFalse(self.look(parts, ("a", "c"), ("b", "d")))

    def test_two_board(self):
        told = two_board(N, ("a", "x"), ["d", "b"])
        self.assertEqual(told, Board(N.places(), N.ties(), ["a", "d", "x", "b"]))
        for of in BOARDS[:40]:
            for one, two in some_twos(of, 3):
                due = Board(of.places(), of.ties(), [one[0], two[0], one[1], two[1]])
                self.assertEqual(two_board(of, one, two), due)
                self.assertEqual(two_picture(of, one, two), picture(due))
                self.assertEqual(crosses_by_hand(due), two_joined(of, one, two) is not None)

    def test_errors(self):
        for call in [two_joined, two_board, two_picture]:
            for thing in no_boards():
                raises_thing(self, BadBoard, thing, call, thing, None, None)
            for thing in [*odd_things(), ("a",), ("a", "b", "c"), ("a", "a"), ("a", "zz"), "ab", {"a": 1, "b": 2}]:
                raises_with(self, BadPairs, {"index": 0}, call, N, thing, None)
                raises_with(self, BadPairs, {"index": 1}, call, N, ("a", "b"), thing)
            for thing in no_places():
                raises_with(self, BadPairs, {"index": 0}, call, N, ("a", thing), ("c", "d"))
                raises_with(self, BadPairs, {"index": 1}, call, N, ("a", "b"), (thing, "d"))
            raises_with(self, BadPairs, {"index": 1}, call, N, ("a", "b"), ("b", "c"))
            raises_with(self, BadPairs, {"index": 1}, call, N, ("a", "b"), ("c", "a"))

    def test_told_new_and_unchanged(self):
        told_new(self, lambda: two_joined(N, ["a", "x"], ["d", "b"]))
        told_new(self, lambda: two_picture(W, ["a", "x"], ["d", "b"]))
        for call in [two_joined, two_board, two_picture]:
            unchanged(self, call, N, ["a", "x"], ["d", "b"])
            self.assertEqual(call(N, ["a", "x"], ["d", "b"]), call(N, ("a", "x"), ("d", "b")))


class PairingsTest(unittest.TestCase):
    def test_examples(self):
        self.assertEqual(pairings(F), [(("a", "b"), ("c", "d"))])
        self.assertEqual(pairings(N), [(("a", "c"), ("b", "d"))])
        for of in [W, Z, EMPTY]:
            self.assertEqual(pairings(of), [])
        self.assertEqual(calm_pins(F), ["a", "b", "c", "d"])
        self.assertEqual(calm_pins(N), [])
        self.assertEqual(calm_pins(Z), [])

    def due(self, of):
        rim = of.rim()
        found = []
        for row in combinations(rim, 4):
            for a, b, c, d in permutations(row):
                places = [rim.index(pin) for pin in (a, b, c, d)]
                if places[0] < places[1] and places[2] < places[3] and places[0] == min(places):
                    if joined_by_hand(of, [(a, b), (c, d)]):
                        found.append((places, ((a, b), (c, d))))
        return [two for _, two in sorted(found)]

    def test_all_ways(self):
        seen = 0
        for of in PINS:
            told = pairings(of)
            self.assertEqual(told, self.due(of), (of.places(), of.ties(), of.rim()))
            self.assertTrue(all(two == tupled(two) for two in told))
            seen += len(told)
        self.assertGreater(seen, 100)

    def test_calm_pins(self):
        seen = set()
        for of in PINS:
            rim = of.rim()
            ends = {pin for one, two in self.due(of) for pin in one + two
                    if rim.index(one[0]) < rim.index(two[0]) < rim.index(one[1]) < rim.index(two[1])}
            calm = [pin for pin in rim if pin not in ends]
            self.assertEqual(calm_pins(of), calm)
            self.assertEqual(cross(of) is None, calm == rim)
            seen.add((len(calm) == 0, len(calm) == len(rim)))
        self.assertEqual(len(seen), 4)

    def test_great_boards(self):
        for of in [grid(6, 6), grid(6, 6, [(2, 2)])]:
            six = Board(of.places(), of.ties(), of.rim()[::3][:6])
            rim = six.rim()
            rows = [[rim.index(pin) for pair in two for pin in pair] for two in pairings(six)]
            self.assertEqual(rows, sorted(rows))
            for a, b, c, d in rows:
                self.assertIsNotNone(two_joined(six, (rim[a], rim[b]), (rim[c], rim[d])))
            across = [row for row in rows if row[0] < row[2] < row[1] < row[3]]
            self.assertEqual(bool(across), cross(six) is not None)
            ends = {rim[at] for row in across for at in row}
            self.assertEqual(calm_pins(six), [pin for pin in rim if pin not in ends])
        eight = random_board(5, 40, 100, 8)
        self.assertGreater(len(pairings(eight)), 100)

    def test_bad_board_and_told_new(self):
        for call in [pairings, calm_pins]:
            for thing in no_boards():
                raises_thing(self, BadBoard, thing, call, thing)
            told_new(self, lambda: call(F))
            raised(self, BadBoard, call, None)


if __name__ == "__main__":
    unittest.main()

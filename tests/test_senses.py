"""Points 57 and 59: ways and rounds that go over a told tie in a told sense."""

import unittest
from itertools import permutations
from random import Random

from byhand import grid, is_way, joined_by_hand, random_board
from mustcross.boards import Board
from mustcross.errors import BadBoard, NoPlace, NoTie, SamePlace
from mustcross.senses import round_over, way_over
from mustcross.twos import two_joined
from support import F, N, W, all_ways, board, no_boards, no_places, raises_thing, raises_with, small_boards, told_new

RING = board("a b c d", "a b, b c, c d, a d")
BOARDS = [F, N, W, RING, *[of for of in small_boards(120, 6, 171) if len(of.places()) > 3]]


def goes_over(row, one, other):
    """Whether on a list, going on, one stands right behind the other."""
    return (one, other) in zip(row, row[1:])


class WayOverTest(unittest.TestCase):
    def test_by_all_ways(self):
        seen = [0, 0]
        for of in BOARDS:
            for tie in of.ties():
                for first, second in [tie, tie[::-1]]:
                    for one, other in permutations([place for place in of.places() if place not in tie], 2):
                        way = way_over(of, one, other, first, second)
                        due = any(goes_over(row, first, second) for row in all_ways(of, [one], [other]))
                        self.assertEqual(way is not None, due)
                        self.assertEqual(due, two_joined(of, (one, first), (second, other)) is not None)
                        seen[due] += 1
                        if way is not None:
                            self.assertTrue(isinstance(way, list) and is_way(of, way))
                            self.assertEqual((way[0], way[-1]), (one, other))
                            self.assertTrue(goes_over(way, first, second))
        self.assertGreater(min(seen), 200)

    def test_great_boards(self):
        chance = Random(1)
        for of in [grid(5, 8), random_board(1, 40, 70, 0)]:
            for _ in range(20):
                first, second = chance.sample(chance.choice(of.ties()), 2)
                one, other = chance.sample([place for place in of.places() if place not in (first, second)], 2)
                way = way_over(of, one, other, first, second)
                if way is not None:
                    self.assertTrue(is_way(of, way) and goes_over(way, first, second))
                    self.assertEqual((way[0], way[-1]), (one, other))


class RoundOverTest(unittest.TestCase):
    def test_example(self):
        ring = round_over(RING, "a", "b", "c", "d")
        self.assertIn(ring, [list("abcd"), list("bcda"), list("cdab"), list("dabc")])
        self.assertIsNone(round_over(RING, "a", "b", "d", "c"))

    def test_by_all_ways(self):
        seen = [0, 0]
        for of in BOARDS:
            ties = of.ties() + [tie[::-1] for tie in of.ties()]
            for one, other in ties[::2]:
                rings = [row for row in all_ways(of, [other], [one]) if len(row) > 2]
                for first, second in ties:
                    if not {one, other} & {first, second}:
                        told = round_over(of, one, other, first, second)
                        due = any(goes_over(ring, first, second) for ring in rings)
                        self.assertEqual(told is not None, due)
                        self.assertEqual(due, joined_by_hand(of, [(other, first), (second, one)]))
                        seen[due] += 1
                        if told is not None:
                            self.assertTrue(isinstance(told, list) and is_way(of, told))
                            self.assertIn(told[0], of.ties_of(told[-1]))
                            turned = told + told[:1]
                            self.assertTrue(goes_over(turned, one, other) and goes_over(turned, first, second))
        self.assertGreater(min(seen), 100)


class WrongTest(unittest.TestCase):
    def test_order_of_errors(self):
        for call in [way_over, round_over]:
            for thing in no_boards():
                raises_thing(self, BadBoard, thing, call, thing, None, None, None, None)
            for thing in no_places():
                for at in range(4):
                    row = ["a", "a", "a", "a"]
                    row[at] = thing
                    row[at + 1:] = [None] * (3 - at)
                    raises_thing(self, NoPlace, thing, call, RING, *row)
            for row, place in [("aabb", "a"), ("abba", "b"), ("abca", "a"), ("abcc", "c"), ("acab", "a"),
                               ("bbca", "b")]:
                raises_with(self, SamePlace, {"thing": place}, call, RING, *row)
            raises_with(self, NoTie, {"one": "c", "other": "b"}, call, board("a b c d", "a d"), "a", "d", "c", "b")
        raises_with(self, NoTie, {"one": "b", "other": "d"}, way_over, RING, "a", "c", "b", "d")
        raises_with(self, NoTie, {"one": "a", "other": "c"}, round_over, RING, "a", "c", "b", "d")
        raises_with(self, NoTie, {"one": "a", "other": "c"}, round_over, Board(list("abcd"), [("b", "d")], []), *"acbd")

    def test_told_new(self):
        told_new(self, lambda: way_over(RING, "a", "d", "b", "c"))
        told_new(self, lambda: round_over(RING, "a", "b", "c", "d"))
        self.assertEqual(way_over(RING, "a", "d", "b", "c"), list("abcd"))


if __name__ == "__main__":
    unittest.main()

"""Points 56, 58 and 59: places put between others or on ties, ways through told places."""

import unittest
from itertools import combinations, permutations
from random import Random

from byhand import all_rounds, grid, is_way, random_board
from mustcross.boards import Board
from mustcross.errors import BadBoard, BadName, BadTold, NoPlace, NoTie, SamePlace
from mustcross.rounds import is_round, is_round_bar, round_bar, round_through
from mustcross.through import put_between, put_on, way_through
from support import (F, N, W, WORDS, Z, all_ways, board, no_boards, no_places, odd_things, raises_thing, raises_with,
                     small_boards, told_new, tupled, unchanged)

K23 = board("a b c x y", "a x, a y, b x, b y, c x, c y", "c a")
BOARDS = [F, N, W, Z, K23, *small_boards(120, 7, 161)]
NO_NAMES = [*[thing for thing in odd_things() if thing != "zz"], *WORDS, "A", "a b", "2a", "abcdefghi", "a_", "a", "x"]


class PutTest(unittest.TestCase):
    def test_put_between(self):
        told = put_between(K23, "a", "c", "m")
        self.assertEqual(told, Board([*K23.places(), "m"], [*K23.ties(), ("a", "m"), ("c", "m")], ["c", "a"]))
        self.assertEqual(put_between(K23, "a", "x", "m").ties_of("x"), ["a", "b", "c", "m"])
        self.assertEqual(K23, board("a b c x y", "a x, a y, b x, b y, c x, c y", "c a"))
        for of in BOARDS[:40]:
            for one, other in permutations(of.places(), 2):
                told = put_between(of, one, other, "z")
                self.assertEqual(told.ties_of("z"), sorted([one, other]))
                self.assertEqual((set(told.ties()) - set(of.ties()), told.rim()),
                                 ({(one, "z"), (other, "z")}, of.rim()))

    def test_put_on(self):
        self.assertEqual(put_on(Z, "q", "p", "m"), board("m p q", "m p, m q"))
        for of in BOARDS[:60]:
            for tie in of.ties():
                for one, other in [tie, tie[::-1]]:
                    told = put_on(of, one, other, "z")
                    due = Board([*of.places(), "z"], [row for row in of.ties() if row != tie]
                                + [(one, "z"), ("z", other)], of.rim())
                    self.assertEqual(told, due)

    def test_wrong(self):
        for call in [put_between, put_on]:
            for thing in no_boards():
                raises_thing(self, BadBoard, thing, call, thing, None, None, None)
            for thing in no_places():
                raises_thing(self, NoPlace, thing, call, K23, thing, None, None)
                raises_thing(self, NoPlace, thing, call, K23, "a", thing, None)
            for thing in NO_NAMES:
                raises_thing(self, BadName, thing, call, K23, "a", "x", thing)
        raises_thing(self, SamePlace, "a", put_between, K23, "a", "a", None)
        for one, other in [("a", "a"), ("a", "b"), ("y", "x")]:
            raises_with(self, NoTie, {"one": one, "other": other}, put_on, K23, one, other, None)


class WayThroughTest(unittest.TestCase):
    def look(self, of, one, other, told):
        """Just one of a way and a bar; whether there is a way."""
        way = way_through(of, one, other, told)
        bar = round_bar(put_between(of, one, other, "zz"), [*told, "zz"])
        self.assertNotEqual(way is None, bar is None)
        if way is None:
            self.assertIs(is_round_bar(put_between(of, one, other, "zz"), [*told, "zz"], bar), True)
            return False
        self.assertTrue(isinstance(way, list) and is_way(of, way))
        self.assertEqual((way[0], way[-1]), (one, other))
        self.assertLessEqual(set(told), set(way))
        return True

    def test_example(self):
        self.assertIn(way_through(K23, "a", "b", ["c"]), [["a", "x", "c", "y", "b"], ["a", "y", "c", "x", "b"]])
        self.assertTrue(self.look(K23, "a", "b", ["c", "y"]))
        self.assertTrue(self.look(K23, "x", "y", ["b"]))
        self.assertFalse(self.look(K23, "x", "y", ["b", "c"]))

    def test_by_all_ways(self):
        chance = Random(1)
        seen = [0, 0]
        for of in BOARDS:
            for _ in range(10):
                row = chance.sample(of.places(), min(len(of.places()), chance.choice([3, 4])))
                if len(row) > 2:
                    ways = all_ways(of, row[:1], row[1:2])
                    there = self.look(of, row[0], row[1], row[2:])
                    self.assertEqual(there, any(set(row) <= set(way) for way in ways))
                    seen[there] += 1
        self.assertGreater(min(seen), 200)

    def test_names_that_are_there(self):
        names = [f"z{at}" for at in range(6)]
        ring = Board(names, list(zip(names, names[1:] + names[:1])), [])
        self.assertEqual(way_through(ring, "z0", "z3", ["z5"]), ["z0", "z5", "z4", "z3"])
        self.assertEqual(way_through(ring, "z3", "z0", ("z5", "z4")), ["z3", "z4", "z5", "z0"])
        self.assertIsNone(way_through(ring, "z0", "z3", ["z1", "z5"]))

    def test_great_boards(self):
        chance = Random(2)
        for of in [grid(5, 5), random_board(1, 25, 60, 0), random_board(2, 25, 32, 3)]:
            for _ in range(15):
                row = chance.sample(of.places(), chance.choice([3, 4]))
                self.look(of, row[0], row[1], row[2:])

    def test_wrong(self):
        for thing in no_boards():
            raises_thing(self, BadBoard, thing, way_through, thing, None, None, None)
        for thing in no_places():
            raises_thing(self, NoPlace, thing, way_through, K23, thing, None, None)
            raises_thing(self, NoPlace, thing, way_through, K23, "a", thing, None)
            raises_with(self, BadTold, {"index": 1}, way_through, K23, "a", "b", ["c", thing])
        raises_thing(self, SamePlace, "a", way_through, K23, "a", "a", None)
        for told, index in [(None, 0), ("c", 0), ({}, 0), ([], 0), (["a"], 0), (["c", "b"], 1), (["c", "c"], 1),
                            (["c", "x", "y"], 2), (["c", "x", "y", "a"], 3), (["c", "x", "x"], 2),
                            (["zz"], 0), ((), 0)]:
            raises_with(self, BadTold, {"index": index}, way_through, K23, "a", "b", told)

    def test_told_new_and_unchanged(self):
        told_new(self, lambda: way_through(K23, "a", "b", ["c"]))
        unchanged(self, way_through, K23, "a", "b", ["c", "y"])
        self.assertEqual(way_through(K23, "a", "b", tupled(["c", "y"])), way_through(K23, "a", "b", ["c", "y"]))


class ToldTiesTest(unittest.TestCase):
    def test_rounds_that_have_a_tie(self):
        for of in BOARDS[:60]:
            for one, other in of.ties():
                for place in of.places():
                    if place not in (one, other):
                        told = round_through(put_on(of, one, other, "z"), ["z", place])
                        ways = [way for way in all_ways(of, [one], [other]) if len(way) > 2 and place in way]
                        self.assertEqual(told is not None, bool(ways))
                        if told:
                            ring = [step for step in told if step != "z"]
                            self.assertTrue(is_round(of, ring))

    def test_two_told_places_that_are_tied(self):
        seen = set()
        for of in BOARDS[:80]:
            rounds = all_rounds(of)
            for one, other in of.ties():
                for third in of.places():
                    if third not in (one, other):
                        bar = round_bar(of, [one, other, third])
                        self.assertTrue(bar is None or bar[0] != "lots")
                        self.assertEqual(bar is None, any({one, other, third} <= ring for ring in rounds))
                        apart = [round_bar(of, list(pair)) for pair in combinations([one, other, third], 2)]
                        self.assertEqual(bar is None, apart == [None] * 3)
                        seen.add(bar is None)
        self.assertEqual(seen, {True, False})


if __name__ == "__main__":
    unittest.main()

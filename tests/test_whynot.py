"""Points 86 and 87: why two told pairs are not joined apart."""

import unittest
from random import Random

from byhand import flat_board, grid, is_picture_of, joined_by_hand, pinned_boards, random_board
from mustcross.boards import Board
from mustcross.errors import BadBoard, BadPairs
from mustcross.twos import two_board, two_joined, two_picture
from mustcross.whynot import is_why_not, why_not
from support import (F, N, W, Z, all_ways, board, listed, no_boards, no_places, odd_things, raises_thing, raises_with,
                     small_boards, told_new, tupled, unchanged)

RING = board("a b c d", "a b, b c, c d, a d")
BOARDS = [of for of in [F, N, W, *small_boards(120, 7, 261), *pinned_boards(80, 7, 262)] if len(of.places()) > 3]


def some_twos(of, many, seed=1):
    """Some pairs of pairs of four unlike places."""
    chance = Random(seed)
    rows = [chance.sample(of.places(), 4) for _ in range(many)]
    return [((a, b), (c, d)) for a, b, c, d in rows]


def common_places(of, one, two):
    """The places over which all ways of both pairs go."""
    ways = all_ways(of, [one[0]], [one[1]]) + all_ways(of, [two[0]], [two[1]])
    return [place for place in of.places() if all(place in way for way in ways)]


class WhyNotTest(unittest.TestCase):
    def test_examples(self):
        self.assertEqual(why_not(W, ("a", "c"), ("b", "d")), ("place", "x"))
        told = why_not(RING, ("a", "c"), ("b", "d"))
        self.assertEqual(told[0], "picture")
        self.assertTrue(is_picture_of(two_board(RING, ("a", "c"), ("b", "d")), told[1:]))

    def look(self, of, one, two):
        """Just one of both joined apart and a reason, each right; which one."""
        told = why_not(of, one, two)
        self.assertEqual(told is None, two_joined(of, one, two) is not None)
        if told is None:
            return None
        self.assertIsInstance(told, tuple)
        self.assertIs(is_why_not(of, one, two, told), True)
        self.assertIs(is_why_not(of, one, two, listed(told)), True)
        if told[0] == "picture":
            self.assertTrue(is_picture_of(two_board(of, one, two), told[1:]))
        return told[0]

    def test_by_all_ways(self):
        seen = {}
        for of in BOARDS:
            for one, two in some_twos(of, 8):
                kind = self.look(of, one, two)
                self.assertEqual(kind is None, joined_by_hand(of, [one, two]))
                none = [at for at, pair in enumerate([one, two]) if not all_ways(of, [pair[0]], [pair[1]])]
                places = common_places(of, one, two)
                due = None
                if none:
                    due = ("no way", none[0])
                elif places:
                    due = ("place", places[0])
                if due is not None:
                    self.assertEqual(why_not(of, one, two), due)
                else:
                    self.assertIn(kind, [None, "picture"])
                for at in range(2):
                    self.assertIs(is_why_not(of, one, two, ("no way", at)), at in none)
                for place in of.places():
                    self.assertIs(is_why_not(of, one, two, ["place", place]), not none and place in places)
                shown = two_picture(of, one, two)
                if shown is not None:
                    self.assertIs(is_why_not(of, one, two, ("picture", *shown)), True)
                seen[kind] = seen.get(kind, 0) + 1
        self.assertEqual(set(seen), {None, "no way", "place", "picture"})
        self.assertGreater(min(seen.values()), 10)

    def test_in_whatever_order(self):
        for of in BOARDS[:40]:
            for one, two in some_twos(of, 3):
                kind = self.look(of, one, two)
                for pair, other in [(one[::-1], two), (one, two[::-1]), (list(one), list(two))]:
                    self.assertEqual(self.look(of, pair, other), kind)
                self.assertEqual(self.look(of, two, one), kind)

    def test_places_and_their_ends(self):
        chain = board("a b c d e", "a b, b c, c d, d e")
        self.assertEqual(why_not(chain, ("a", "e"), ("b", "d")), ("place", "b"))
        self.assertEqual(why_not(chain, ("b", "e"), ("d", "a")), ("place", "b"))
        self.assertEqual(why_not(chain, ("a", "c"), ("b", "e")), ("place", "b"))
        self.assertIsNone(why_not(chain, ("a", "b"), ("e", "c")))
        for place in "bcd":
            self.assertIs(is_why_not(chain, ("a", "e"), ("b", "d"), ("place", place)), True)
        for place in "ae":
            self.assertIs(is_why_not(chain, ("a", "e"), ("b", "d"), ("place", place)), False)

    def test_no_way(self):
        parts = board("a b c d e", "a b, c d, d e")
        self.assertEqual(why_not(parts, ("a", "c"), ("b", "d")), ("no way", 0))
        self.assertEqual(why_not(parts, ("a", "b"), ("c", "e")), None)
        self.assertEqual(why_not(parts, ("c", "e"), ("d", "b")), ("no way", 1))
        self.assertIs(is_why_not(parts, ("a", "c"), ("b", "d"), ("no way", 1)), True)
        for place in "abcde":
            self.assertIs(is_why_not(parts, ("a", "c"), ("b", "d"), ("place", place)), False)
        for thing in [*[thing for thing in odd_things() if thing not in (0, 1) or isinstance(thing, bool)], 2]:
            self.assertIs(is_why_not(parts, ("a", "c"), ("b", "d"), ("no way", thing)), False)
            self.assertIs(is_why_not(parts, ("a", "c"), ("b", "d"), (thing, 0)), False)

    def test_great_boards(self):
        chance = Random(2)
        for of in [grid(6, 6), grid(5, 8, [(1, 1)]), random_board(1, 40, 45, 4), random_board(2, 40, 100, 0),
                   flat_board(3, 24, 6, 90, 3)]:
            for a, b, c, d in [chance.sample(of.places(), 4) for _ in range(15)]:
                self.look(of, (a, b), (c, d))
        corners = grid(6, 6).rim()[::5]
        self.assertEqual(self.look(grid(6, 6), (corners[0], corners[2]), (corners[1], corners[3])), "picture")

    def test_any_object(self):
        pairs = (("a", "c"), ("b", "d"))
        for of in [W, RING, N]:
            for thing in [*odd_things(), ("place",), ("place", "a"), ("place", "x", "x"), ("no way",), ("no way", 0),
                          ("no way", 1), ("no way", 2), ("no way", False), ("no way", True), ("no way", -1),
                          ("no way", "0"), ("no way", None), ("no way", [0]), ("picture",), ("picture", []),
                          ("picture", [], {}), ("Place", "x"), {0: "place", 1: "x"}, ("place", ["x"]), ("place", None),
                          ("place", W), ([], "x"), (None, 0)]:
                self.assertIs(is_why_not(of, *pairs, thing), False, thing)
        for thing in [*no_places(), "b"]:
            self.assertIs(is_why_not(W, *pairs, ("place", thing)), False)
        _, folds, orders = why_not(RING, *pairs)
        self.assertIs(is_why_not(RING, *pairs, ("picture", folds, {one: tupled(row) for one, row in orders.items()})),
                      True)
        for thing in [*odd_things(), {**orders, "a": ["b"]}, {**orders, "q": []}]:
            self.assertIs(is_why_not(RING, *pairs, ("picture", folds, thing)), False)
            self.assertIs(is_why_not(RING, *pairs, ("cross", folds, orders)), False)
        for thing in [thing for thing in odd_things() if thing not in ([], ())]:
            self.assertIs(is_why_not(RING, *pairs, ("picture", thing, orders)), False)
        mirrored = Board(RING.places(), RING.ties(), list("dcba"))
        self.assertIs(is_why_not(mirrored, *pairs, ("picture", folds, orders)), True)

    def test_errors(self):
        for call in [why_not, lambda of, one, two: is_why_not(of, one, two, None)]:
            for thing in no_boards():
                raises_thing(self, BadBoard, thing, call, thing, None, None)
            for thing in [*odd_things(), ("a",), ("a", "b", "c"), ("a", "a"), ("a", "zz"), "ab", {"a": 1, "b": 2}]:
                raises_with(self, BadPairs, {"index": 0}, call, N, thing, None)
                raises_with(self, BadPairs, {"index": 1}, call, N, ("a", "b"), thing)
            for pair in [("b", "c"), ("c", "a"), ("a", "b"), ("d", "d")]:
                raises_with(self, BadPairs, {"index": 1}, call, N, ("a", "b"), pair)
            raises_with(self, BadPairs, {"index": 0}, call, Z, ("p", "p"), ("p", "q"))

    def test_told_new_and_unchanged(self):
        told_new(self, lambda: why_not(RING, ["a", "c"], ["b", "d"]))
        for of in [W, RING, N]:
            unchanged(self, why_not, of, ["a", "c"], ["b", "d"])
            unchanged(self, is_why_not, of, ["a", "c"], ["b", "d"], listed(why_not(RING, ["a", "c"], ["b", "d"])))


if __name__ == "__main__":
    unittest.main()

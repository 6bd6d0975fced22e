"""Points 39, 40 and 44: what bars a drawing."""

import unittest
from itertools import combinations

from byhand import closed_ties, flat_board, grid, is_bar_of, random_board, with_rim
from mustcross.bars import bar, bar_fault, cross_bar
from mustcross.boards import Board
from mustcross.crosses import cross, is_cross
from mustcross.drawings import drawing
from mustcross.errors import BadBoard, BadCross
from support import (EMPTY, F, N, W, Z, all_ways, board, listed, no_boards, odd_things, raises_thing, small_boards,
                     told_new, tupled, unchanged)

FIVE = Board(list("abcde"), list(combinations("abcde", 2)), [])
THREE = Board(list("abcxyz"), [(one, other) for one in "abc" for other in "xyz"], [])
BOARDS = [F, N, W, Z, EMPTY, FIVE, THREE, *small_boards(500, 8, 101)]
BAR_N = ("five", ["a", "b", "c", "d", "rim"],
         [["a", "b"], ["a", "x", "c"], ["a", "d"], ["a", "rim"], ["b", "c"], ["b", "y", "d"], ["b", "rim"], ["c", "d"],
          ["c", "rim"], ["d", "rim"]])
BAR_THREE = ("three", list("abcxyz"), [[one, other] for one in "abc" for other in "xyz"])


def told_right(of, told):
    """Whether a bar is told as it should be."""
    kind, places, ways = told
    half = len(places) // 2
    told_up = places == sorted(places) if kind == "five" else places[0] < places[half]
    return (isinstance(told, tuple) and isinstance(places, list) and isinstance(ways, list) and told_up
            and all(isinstance(way, list) for way in ways) and is_bar_of(of, told))


class BarTest(unittest.TestCase):
    def test_just_one_of_a_drawing_and_a_bar(self):
        kinds = set()
        for of in BOARDS:
            told = bar(of)
            self.assertNotEqual(told is None, drawing(of) is None)
            if told is not None:
                kinds.add(told[0])
                self.assertTrue(told_right(of, told), (of.places(), of.ties(), of.rim(), told))
                self.assertIsNone(bar_fault(of, told))
        self.assertEqual(kinds, {"five", "three"})

    def test_examples(self):
        self.assertIsNone(bar_fault(N, BAR_N))
        self.assertEqual(cross_bar(N, cross(N)), BAR_N)
        self.assertEqual(bar(FIVE)[:2], ("five", list("abcde")))
        self.assertEqual(bar(THREE), BAR_THREE)

    def test_great_boards(self):
        for of in [random_board(1, 40, 100, 0), random_board(2, 40, 100, 8), random_board(3, 40, 100, 40),
                   random_board(4, 40, 60, 12), random_board(5, 40, 780, 4), grid(6, 6, [(2, 2)], "corners"),
                   grid(5, 8, [(1, 3), (3, 1)])]:
            self.assertTrue(told_right(of, bar(of)))
            self.assertIsNone(drawing(of))
        for of in [flat_board(1, 28, 12), grid(5, 8), flat_board(2, 30, 5, 80)]:
            self.assertIsNone(bar(of))
            self.assertIsNotNone(drawing(of))

    def test_closed_board(self):
        ties = [tie for tie in FIVE.ties() if tie != ("a", "b")]
        self.assertIsNone(bar(Board(list("abcde"), ties, ["a"])))
        two = Board(list("abcde"), ties, ["a", "b"])
        kind, places, ways = bar(two)
        self.assertEqual((kind, places, ways[1:]), ("five", list("abcde"), [list(tie) for tie in ties]))
        for way in [["a", "b"], ["a", "rim", "b"]]:
            self.assertIsNone(bar_fault(two, (kind, places, [way, *ways[1:]])))
        three = Board(list("abcde"), [tie for tie in ties if tie != ("b", "c")], ["a", "b", "c"])
        self.assertIsNone(bar_fault(three, (kind, places, [["a", "b"], *ways[1:]])))
        four = Board(list("abcde"), three.ties(), ["a", "b", "d", "c"])
        self.assertEqual(bar_fault(four, (kind, places, [["a", "b"], *ways[1:]])), ("way", 4))
        self.assertEqual(closed_ties(four) - closed_ties(with_rim(four, [])),
                         {frozenset(tie) for tie in [("a", "b"), *[(pin, "rim") for pin in "abcd"]]})

    def test_places_behind_rim(self):
        self.assertEqual(cross_bar(board("a s t u v", "s u, t v", "a s t u v"), (["s", "u"], ["v", "t"]))[1],
                         ["rim", "s", "t", "u", "v"])
        full = Board(list("stuvw"), list(combinations("stuvw", 2)), list("stuv"))
        self.assertTrue(told_right(full, bar(full)))

    def test_told_new_and_the_same(self):
        told_new(self, lambda: bar(N))
        told_new(self, lambda: cross_bar(N, cross(N)))
        first = bar(N)
        bar(FIVE)
        self.assertEqual(bar(Board(N.places()[::-1], N.ties()[::-1], N.rim())), first)

    def test_bad_board(self):
        for thing in no_boards():
            raises_thing(self, BadBoard, thing, bar, thing)
            raises_thing(self, BadBoard, thing, bar_fault, thing, None)
            raises_thing(self, BadBoard, thing, cross_bar, thing, None)


class BarFaultTest(unittest.TestCase):
    def test_lists_and_tuples(self):
        for thing in [BAR_N, listed(BAR_N), tupled(BAR_N)]:
            self.assertIsNone(bar_fault(N, thing))
        self.assertIsNone(bar_fault(THREE, listed(BAR_THREE)))
        unchanged(self, bar_fault, N, listed(BAR_N))

    def test_form(self):
        kind, places, ways = BAR_N
        for thing in [*odd_things(), (kind, places), (kind, places, ways, ways), ("three", places, ways),
                      ("six", places, ways), ("six", list("abcxyd"), ways[:9]),
                      (5, places, ways), (None, places, ways), ([kind], places, ways),
                      (kind, places[:4], ways), (kind, [*places, "x"], ways), (kind, places[:4] + ["a"], ways),
                      (kind, places[:4] + ["zz"], ways), (kind, places[:4] + [1], ways), (kind, None, ways),
                      (kind, places[:4] + [["rim"]], ways), (kind, "abcd", ways), (kind, places, ways[:9]),
                      (kind, places, [*ways, ways[0]]), (kind, places, None), (kind, places, "abcdefghij"),
                      (kind, places, dict(enumerate(ways))), {0: kind, 1: places, 2: ways}, (N, places, ways), N]:
            self.assertEqual(bar_fault(N, thing), ("form",), thing)
        self.assertEqual(bar_fault(THREE, ("five", *BAR_THREE[1:])), ("form",))
        self.assertEqual(bar_fault(THREE, (*BAR_THREE[:2], BAR_THREE[2][:8])), ("form",))
        self.assertEqual(bar_fault(Z, BAR_N), ("form",))
        self.assertEqual(bar_fault(FIVE, BAR_N), ("way", 1))

    def changed(self, index, way):
        kind, places, ways = BAR_N
        return kind, places, ways[:index] + [way] + ways[index + 1:]

    def test_way(self):
        for way in [["a", "c"], ["c", "x", "a"], ["a", "x"], ["a", "x", "y", "c"], ["a", "x", "x", "c"], [], None,
                    "axc",
                    ["a", "zz", "c"], ["a", 1, "c"], ["a", ["x"], "c"], {"a": 1}, ["x", "c"], ["a"], [["a"], "c"]]:
            self.assertEqual(bar_fault(N, self.changed(1, way)), ("way", 1), way)
        for index in range(10):
            self.assertEqual(bar_fault(N, self.changed(index, ["a", "b"][::-1])), ("way", index))
        kind, places, ways = BAR_N
        self.assertEqual(bar_fault(N, (kind, places, ways[:3] + [None] * 7)), ("way", 3))
        self.assertEqual(bar_fault(N, (kind, places[::-1], ways)), ("way", 0))

    def test_shared(self):
        self.assertEqual(bar_fault(N, self.changed(0, ["a", "rim", "b"])), ("shared", 0))
        self.assertEqual(bar_fault(N, self.changed(2, ["a", "x", "y", "d"])), ("shared", 2))
        self.assertEqual(bar_fault(N, self.changed(4, ["b", "y", "x", "c"])), ("shared", 4))
        self.assertEqual(bar_fault(N, self.changed(0, ["a", "x", "y", "b"])), ("shared", 1))
        self.assertEqual(bar_fault(N, self.changed(9, ["d", "c", "rim"])), ("shared", 9))
        both = self.changed(9, ["d", "rim", "zz"])
        self.assertEqual(bar_fault(N, (both[0], both[1], [["a", "rim", "b"], *both[2][1:]])), ("way", 9))

    def test_rims_of_one_two_and_three_pins(self):
        for of in [Board(list("abcde"), FIVE.ties(), list("abcd")[:many]) for many in range(4)]:
            told = bar(of)
            self.assertTrue(told_right(of, told))
            kind, places, ways = told
            for index, way in enumerate(ways):
                self.assertEqual(bar_fault(of, (kind, places, ways[:index] + [way[::-1]] + ways[index + 1:])),
                                 ("way", index))
        of = board("a b c", "", "a b")
        self.assertEqual(bar_fault(of, ("five", ["a", "b", "rim", "c", "d"], [])), ("form",))

    def test_all_with_one_thing_otherwise(self):
        for of in BOARDS:
            told = bar(of)
            if told is not None:
                kind, places, ways = told
                everyone = [*of.places(), "rim"]
                for index, way in enumerate(ways):
                    for row in [way[:1] + [place] + way[1:] for place in everyone] + [way[1:], way[::-1], way[:1]]:
                        thing = (kind, places, ways[:index] + [row] + ways[index + 1:])
                        due = len(row) > 1 and len(set(row)) == len(row) and is_bar_of(of, thing)
                        self.assertIs(bar_fault(of, thing) is None, due)


class CrossBarTest(unittest.TestCase):
    def test_all_crosses(self):
        for of in BOARDS:
            told = cross(of)
            if told is not None:
                one, other = told
                for ways in [(one, other), (other[::-1], one), (tuple(one), other[::-1])]:
                    found = cross_bar(of, ways)
                    self.assertTrue(told_right(of, found))
                    self.assertEqual(found[0], "five")
                    self.assertIn("rim", found[1])
                self.assertIsNone(drawing(of))

    def test_ways_over_other_pins(self):
        seen = 0
        for of in small_boards(150, 6, 102):
            ways = [way for way in all_ways(of, of.rim(), of.rim()) if len(way) > 1]
            for one, other in combinations(ways, 2):
                if is_cross(of, (one, other)):
                    seen += len(set(one + other) & set(of.rim())) > 4
                    self.assertTrue(told_right(of, cross_bar(of, (one, other))))
        self.assertGreater(seen, 50)

    def test_bad_cross(self):
        for thing in [*odd_things(), (["a", "x", "c"], ["b", "d"]), (["a", "x", "c"],), N]:
            raises_thing(self, BadCross, thing, cross_bar, N, thing)
        raises_thing(self, BadCross, None, cross_bar, W, cross(W))
        unchanged(self, cross_bar, N, (["a", "x", "c"], ["b", "y", "d"]))


if __name__ == "__main__":
    unittest.main()

"""Point 28: ways led through a piece, into the folded board and out again."""

import unittest
from itertools import combinations

from byhand import flat_board, is_way
from mustcross.boards import Board
from mustcross.errors import BadBoard, BadLed, BadPiece
from mustcross.folding import fold_row, folded
from mustcross.ledways import led_in, led_out
from support import (EMPTY, F, N, W, Z, all_pieces, all_ways, board, no_boards, odd_things, raised, raises_thing,
                     raises_with, small_boards, told_new, tupled, unchanged)

BOARDS = [F, N, W, Z, *small_boards(80, 6, 61)]
THREE = board("a b c u v", "a u, b v, c v, u v", "a b c")


def rows_apart(of, barred=()):
    """Lists of ways, no two with a common place, of which none ends in barred places."""
    ways = [way for way in all_ways(of, of.places(), of.places()) if way[0] not in barred and way[-1] not in barred]
    rows = [[]] + [[way] for way in ways]
    rows += [[one, other] for one, other in combinations(ways[::3], 2) if not set(one) & set(other)][:150]
    return rows


class LedInTest(unittest.TestCase):
    def test_all_ways(self):
        for of in BOARDS:
            for piece, _ in all_pieces(of):
                below = folded(of, piece)
                for ways in rows_apart(of, piece):
                    told = led_in(of, piece, ways)
                    self.assertEqual(told, [[place for place in way if place not in piece] for way in ways])
                    self.assertTrue(all(is_way(below, way) for way in told))

    def test_twice_through_one_piece(self):
        self.assertEqual(led_in(THREE, ["u", "v"], [["a", "u", "v", "b"]]), [["a", "b"]])
        twice = board("a b c u v", "a u, b u, b v, c v, u v", "a b c")
        self.assertEqual(led_in(twice, ("v", "u"), [("a", "u", "b", "v", "c")]), [["a", "b", "c"]])

    def test_example(self):
        self.assertEqual(led_in(F, ["u", "v"], [["a", "u", "v", "x"], ["b"]]), [["a", "x"], ["b"]])
        self.assertEqual(led_in(F, ["u", "v"], ()), [])

    def test_bad_led(self):
        for ways, index in [(None, 0), ("ab", 0), ({}, 0), ([["a", "b"]], 0), ([["a"], ["zz"]], 1), ([[]], 0),
                            ([["a"], ["b"], "b"], 2), ([["a", "x"], ["c", "x"]], 1), ([["a"], ["a"]], 1),
                            ([["u", "a"]], 0), ([["a", "u"]], 0), ([["a", "x"], ["v"]], 1), ([["a", "a"]], 0),
                            ([["a", "u", "b"], ["c"], ["u", "v"]], 2), ([["a"], ["a"], None], 1)]:
            raises_with(self, BadLed, {"index": index}, led_in, F, ["u", "v"], ways)
        for thing in odd_things():
            raises_with(self, BadLed, {"index": 1}, led_in, F, ["u", "v"], [["a"], thing, thing])


class LedOutTest(unittest.TestCase):
    def look(self, of, piece, ways):
        told = led_out(of, piece, ways)
        self.assertEqual([(way[0], way[-1]) for way in told], [(way[0], way[-1]) for way in ways])
        self.assertTrue(all(is_way(of, way) for way in told), (of.ties(), piece, ways, told))
        for way, own in zip(told, ways):
            self.assertLessEqual(set(way), set(own) | set(piece))
        places = [place for way in told for place in way]
        self.assertEqual(len(set(places)), len(places))

    def test_all_ways(self):
        for of in BOARDS:
            for piece, _ in all_pieces(of):
                for ways in rows_apart(folded(of, piece)):
                    self.look(of, piece, ways)

    def test_there_and_back(self):
        for of in BOARDS:
            for piece, _ in all_pieces(of):
                for ways in rows_apart(of, piece)[:60]:
                    self.look(of, piece, led_in(of, piece, ways))

    def test_over_three_feet(self):
        self.look(THREE, ["u", "v"], [["a", "b", "c"]])
        self.look(THREE, ["u", "v"], [["c", "a", "b"]])
        self.look(THREE, ["v", "u"], (("b",), ("a", "c")))

    def test_greater_boards(self):
        for seed in range(5):
            left = flat_board(seed, 18, 8, 90, 3)
            row = fold_row(left)[1]
            for piece, _ in row:
                below = folded(left, piece)
                for tie in below.ties():
                    self.look(left, piece, [list(tie), *[[pin] for pin in left.rim() if pin not in tie]])
                left = below

    def test_bad_led(self):
        for ways, index in [(None, 0), ("ab", 0), ([["a", "u", "b"]], 0), ([["a", "b"], ["c"], ["a"]], 2),
                            ([["a", "b"], ["c", "d"]], 1), ([["u"]], 0), ([[]], 0), ([["a"], {}], 1)]:
            raises_with(self, BadLed, {"index": index}, led_out, F, ["u", "v"], ways)
        for thing in odd_things():
            raises_with(self, BadLed, {"index": 0}, led_out, F, ["u", "v"], [thing])


class BothTest(unittest.TestCase):
    def test_order_of_errors(self):
        for call in [led_in, led_out]:
            for thing in no_boards():
                raises_thing(self, BadBoard, thing, call, thing, None, None)
            for thing in [*odd_things(), ["a"], ["x"], ["u", "u"], "u", ["u", "zz"]]:
                raises_thing(self, BadPiece, thing, call, F, thing, None)
            raised(self, BadPiece, call, EMPTY, [], [])

    def test_told_new_and_unchanged(self):
        for call, ways in [(led_in, [["a", "u", "b"], ["c"]]), (led_out, [["a", "b"], ["c"]])]:
            told_new(self, lambda: call(F, ["v", "u"], ways))
            unchanged(self, call, F, ["v", "u"], ways)
            self.assertEqual(call(F, ("u", "v"), tupled(ways)), call(F, ["v", "u"], ways))

    def test_same_for_equal_boards_in_turns(self):
        again = Board(F.places()[::-1], F.ties()[::-1], F.rim())
        first = led_out(F, ["u", "v"], [["a", "x"]])
        led_out(THREE, ["u", "v"], [["a", "b"]])
        self.assertEqual(led_out(again, ["v", "u"], [["a", "x"]]), first)


if __name__ == "__main__":
    unittest.main()

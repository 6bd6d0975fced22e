"""Points 48 and 67: stretches of the rim, what they count, what parts them."""

import unittest
from itertools import combinations

from byhand import crosses_by_hand, flat_board, grid, is_way, random_board, with_rim
from mustcross.apart import ways_apart
from mustcross.boards import Board
from mustcross.errors import BadBoard, BadStretch, NoPin
from mustcross.partings import is_parting
from mustcross.rimcounts import count, counts, least_lot
from support import (EMPTY, F, N, W, Z, all_ways, board, most_disjoint, no_boards, no_places, raises_thing, raises_with,
                     small_boards, told_new)

BOARDS = [F, N, W, Z, EMPTY, board("p", "", "p"), *small_boards(150, 6, 141)]


def stretches(of):
    """All stretches but that of all pins, told by first and last, with their pins."""
    rim = of.rim()
    return [((rim + rim)[at:at + many], rim[at], (rim + rim)[at + many - 1])
            for at in range(len(rim)) for many in range(1, len(rim))]


class CountTest(unittest.TestCase):
    def test_examples(self):
        self.assertEqual(counts(F), [[1, 1, 1], [1, 2, 1], [1, 1, 1], [1, 2, 1]])
        self.assertEqual(counts(W), [[1, 1, 1]] * 4)
        self.assertEqual(counts(N), [[1, 2, 1]] * 4)
        self.assertEqual(count(F, "b", "c"), 2)
        self.assertEqual(count(F, "d", "a"), 2)
        self.assertEqual(least_lot(F, "a", "b"), ["x"])

    def test_by_all_ways(self):
        for of in BOARDS:
            for row, first, last in stretches(of):
                others = [pin for pin in of.rim() if pin not in row]
                self.assertEqual(count(of, first, last), most_disjoint(all_ways(of, row, others)))

    def test_stretches_round_the_rims_end_and_of_all_pins_but_one(self):
        of = board("a b c d e x y", "a x, b x, c y, d y, e x, x y", "c e a d b")
        self.assertEqual(count(of, "d", "c"), 1)
        self.assertEqual(least_lot(of, "d", "c"), ["x"])
        self.assertEqual(count(of, "b", "e"), 2)
        self.assertEqual(count(of, "b", "b"), 1)
        for pin, ahead in zip(of.rim(), of.rim()[-1:] + of.rim()[:-1]):
            behind = of.rim()[(of.rim().index(pin) + 1) % 5]
            self.assertEqual(count(of, behind, ahead), count(of, pin, pin))

    def test_least_lot(self):
        for of in BOARDS:
            for row, first, last in stretches(of):
                others = [pin for pin in of.rim() if pin not in row]
                lot = least_lot(of, first, last)
                self.assertEqual(lot, sorted(lot))
                self.assertEqual(len(lot), count(of, first, last))
                self.assertIs(is_parting(of, row, others, lot), True)

    def test_just_one_of_so_many_ways_or_a_lot_of_fewer_places(self):
        for of in BOARDS[:60]:
            for row, first, last in stretches(of):
                others = [pin for pin in of.rim() if pin not in row]
                many = count(of, first, last)
                ways = ways_apart(of, row, others)
                self.assertEqual(len(ways), many)
                for less in range(many):
                    self.assertFalse(any(is_parting(of, row, others, list(lot))
                                         for lot in combinations(of.places(), less)))

    def test_rims_of_none_one_and_two_pins(self):
        for of, due in [(EMPTY, []), (Z, []), (board("p", "", "p"), [[]]), (board("p q", "", "p q"), [[0], [0]]),
                        (board("p q", "p q", "q p"), [[1], [1]])]:
            self.assertEqual(counts(of), due)

    def test_known_boards(self):
        rows = grid(4, 4)
        self.assertEqual([count(rows, "p00", last) for last in ["p00", "p01", "p02", "p03", "p13"]], [1, 2, 3, 4, 4])
        self.assertEqual(count(with_rim(rows, ["p00", "p33"]), "p00", "p00"), 1)
        sides = board("a b c d e f k l m", "a k, b l, c m, k d, l e, m f, a l, b k", "a b c f e d")
        self.assertEqual(count(sides, "a", "c"), 3)
        self.assertEqual(counts(sides)[0][2], 3)


class CountsTest(unittest.TestCase):
    def test_counts_are_those_of_stretches(self):
        for of in [*BOARDS, flat_board(1, 20, 12, 70), random_board(2, 30, 40, 9)]:
            rim = of.rim()
            table = counts(of)
            self.assertEqual([len(row) for row in table], [len(rim) - 1] * len(rim))
            self.assertEqual([number for row in table for number in row],
                             [count(of, first, last) for _, first, last in stretches(of)])

    def test_with_a_cross_too(self):
        self.assertTrue(any(crosses_by_hand(of) for of in BOARDS))

    def test_great_boards(self):
        for of in [flat_board(3, 24, 16, 80), random_board(1, 40, 100, 16), random_board(2, 40, 780, 16)]:
            table = counts(of)
            for at in range(16):
                for many in range(1, 16):
                    self.assertEqual(table[at][many - 1], table[(at + many) % 16][15 - many])
                    self.assertLessEqual(table[at][many - 1], min(many, 16 - many))
            row = of.rim()[3:9]
            ways = ways_apart(of, row, of.rim()[:3] + of.rim()[9:])
            self.assertEqual(table[3][5], len(ways))
            self.assertTrue(all(is_way(of, way) for way in ways))

    def test_told_new(self):
        told_new(self, lambda: counts(F))
        told_new(self, lambda: least_lot(N, "a", "b"))
        again = Board(N.places()[::-1], N.ties()[::-1], N.rim())
        first = least_lot(N, "a", "b")
        counts(F)
        self.assertEqual(least_lot(again, "a", "b"), first)


class WrongTest(unittest.TestCase):
    def test_order_of_errors(self):
        for call in [count, least_lot]:
            for thing in no_boards():
                raises_thing(self, BadBoard, thing, call, thing, None, None)
            for thing in [*no_places(), "x", "u"]:
                raises_thing(self, NoPin, thing, call, F, thing, None)
                raises_thing(self, NoPin, thing, call, F, "a", thing)
            for first, last in ["ad", "ba", "cb", "dc"]:
                raises_with(self, BadStretch, {"first": first, "last": last}, call, F, first, last)
            raises_with(self, BadStretch, {"first": "p", "last": "p"}, call, board("p", "", "p"), "p", "p")
        for thing in no_boards():
            raises_thing(self, BadBoard, thing, counts, thing)


if __name__ == "__main__":
    unittest.main()

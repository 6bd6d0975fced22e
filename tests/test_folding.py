"""Points 26, 27, 29 and 30: folding, what has at most two feet, and crosses on folded boards."""

import unittest
from itertools import combinations

from mustcross.boards import Board
from mustcross.errors import BadBoard, BadPiece
from mustcross.folding import fold_row, folded, thinned
from mustcross.pieces import is_piece
from support import (EMPTY, F, N, W, Z, all_pieces, board, feet_around, fold_by_hand, no_boards,
                     odd_things, raises_thing, small_boards, told_new, two_apart, unchanged)

TWO = board("a b c d y z", "a y, b y, c z, d z, y z", "a c b d")
BOARDS = [F, N, W, Z, TWO, EMPTY, *small_boards(70, 8, 9)]


def orders_of_folding(of, most):
    """All boards that are left by folding pieces of at most so many feet until there is none."""
    rows = [(lot, around) for lot, around in all_pieces(of) if len(around) <= most]
    if not rows:
        return [of]
    found = []
    for lot, _ in rows:
        for left in orders_of_folding(fold_by_hand(of, lot), most):
            if left not in found:
                found.append(left)
    return found


class FoldedTest(unittest.TestCase):
    def test_example(self):
        left = folded(F, ["v", "u"])
        self.assertEqual(left, board("a b c d x", "a b, a x, b x, c x, d x", "a b c d"))

    def test_all_pieces(self):
        for of in BOARDS:
            for lot, _ in all_pieces(of):
                told = folded(of, lot)
                self.assertEqual(told, fold_by_hand(of, lot))
                self.assertEqual(told, folded(of, tuple(lot[::-1])))
                self.assertEqual(told.rim(), of.rim())

    def test_whole_board(self):
        self.assertEqual(folded(Z, ["p", "q"]), EMPTY)

    def test_unlike_boards_can_be_left(self):
        self.assertEqual(folded(TWO, ["y"]).ties_of("z"), ["a", "b", "c", "d"])
        self.assertEqual(folded(TWO, ["z"]).ties_of("y"), ["a", "b", "c", "d"])
        self.assertEqual(len(orders_of_folding(TWO, 3)), 2)

    def test_bad_piece(self):
        for thing in [*odd_things(), [], "u", ["a"], ["x"], ["u", "u"], ["u", "zz"], {"u": 1}, F, ["u", ["v"]],
                      ["u", "v", "x"], ["u", "c"]]:
            raises_thing(self, BadPiece, thing, folded, F, thing)
        for thing in no_boards():
            raises_thing(self, BadBoard, thing, folded, thing, None)

    def test_unchanged_and_by_name(self):
        unchanged(self, folded, F, ["v", "u"])
        ahead = (F.places(), F.ties(), F.rim())
        folded(piece=["v", "u"], board=F)
        self.assertEqual((F.places(), F.ties(), F.rim()), ahead)


class FoldRowTest(unittest.TestCase):
    def test_row(self):
        for of in BOARDS:
            left, row = fold_row(of)
            due = of
            for lot, around in row:
                self.assertTrue(is_piece(due, lot))
                self.assertEqual(lot, sorted(lot))
                self.assertEqual(around, feet_around(due, lot))
                due = fold_by_hand(due, lot)
            self.assertEqual(left, due)
            self.assertEqual(all_pieces(left), [])

    def test_examples(self):
        left, _ = fold_row(F)
        self.assertEqual(left, board("a b c d x", "a b, a x, b x, c x, d x", "a b c d"))
        self.assertEqual(fold_row(W), (W, []))
        self.assertEqual(fold_row(EMPTY), (EMPTY, []))
        self.assertEqual(fold_row(Z)[0], EMPTY)
        self.assertEqual(len(fold_row(TWO)[0].places()), 5)

    def test_kinds_of_what_is_told(self):
        told = told_new(self, lambda: fold_row(board("a b x y", "a x, b y", "a b"))[1])
        self.assertEqual(told, [(["x"], ["a"]), (["y"], ["b"])])
        self.assertIs(fold_row(F).__class__, tuple)
        self.assertTrue(all(pair.__class__ is tuple for pair in told))

    def test_the_same_for_equal_boards(self):
        for of in BOARDS:
            again = Board(of.places()[::-1], of.ties()[::-1], of.rim())
            self.assertEqual(fold_row(again), fold_row(of))

    def test_bad_board(self):
        for call in [fold_row, thinned]:
            for thing in no_boards():
                raises_thing(self, BadBoard, thing, call, thing)

    def test_forty_places(self):
        names = [f"g{row}{col}" for row in range(5) for col in range(8)]
        ties = [(one, other) for one in names for other in names if one < other
                and abs(int(one[1]) - int(other[1])) <= 1 and abs(int(one[2]) - int(other[2])) <= 1]
        of = Board(names, ties, ["g00", "g07", "g47", "g40"])
        left, row = fold_row(of)
        self.assertEqual((left, row), (of, []))
        left, row = fold_row(Board(names, ties, ["g00", "g07", "g47"]))
        self.assertEqual(left, board("g00 g07 g47", "g00 g07, g00 g47, g07 g47", "g00 g07 g47"))
        chain = [f"p{number:02}" for number in range(40)]
        steps = [(one, other) for at, one in enumerate(chain) for other in chain[at + 1:at + 6]]
        told = fold_row(Board(chain, steps, chain[:1] + chain[-1:]))
        self.assertEqual(told[0].places(), ["p00", "p39"])


class ThinnedTest(unittest.TestCase):
    def test_examples(self):
        left, pieces = thinned(F)
        self.assertEqual(pieces, [["v"]])
        self.assertEqual(left, board("a b c d u x", "a u, a x, b u, b x, c x, d x, u x", "a b c d"))
        self.assertEqual(thinned(TWO), (TWO, []))
        self.assertEqual(thinned(Z), (EMPTY, [["p", "q"]]))
        self.assertEqual(thinned(EMPTY), (EMPTY, []))

    def test_greatest_ones_of_at_most_two_feet(self):
        for of in BOARDS:
            left, pieces = thinned(of)
            lots = [lot for lot, around in all_pieces(of) if len(around) <= 2]
            due = [lot for lot in lots if not any(set(lot) < set(other) for other in lots)]
            self.assertEqual(pieces, sorted(due))
            for one, other in combinations(pieces, 2):
                self.assertFalse(set(one) & set(other))
                self.assertFalse(set(feet_around(of, one)) & set(other))
            for lot in pieces:
                of = fold_by_hand(of, lot)
            self.assertEqual(left, of)

    def test_whichever_order(self):
        for of in BOARDS:
            if len(of.places()) <= 6:
                self.assertEqual(orders_of_folding(of, 2), [thinned(of)[0]])

    def test_pieces_of_fewer_feet_within_one_of_two(self):
        of = board("a b p q r s", "a p, p q, q b, p r, q s", "a b")
        self.assertEqual(thinned(of), (board("a b", "a b", "a b"), [["p", "q", "r", "s"]]))
        hung = board("a b c d p q r", "a b, p a, q b, q c, q d, r q", "a b c d")
        self.assertEqual(thinned(hung)[1], [["p"], ["r"]])

    def test_pieces_are_ascending(self):
        of = board("a b k p q r", "a k, k p, k q, b q, b r", "p q r")
        self.assertEqual(thinned(of)[1], [["a", "k"], ["b"]])

    def test_told_new(self):
        told_new(self, lambda: thinned(board("a b p q", "a p, b q", "a b"))[1])
        self.assertIs(thinned(F).__class__, tuple)

    def test_forty_places(self):
        names = [f"p{number:02}" for number in range(40)]
        of = Board(names, list(zip(names, names[1:])), [names[0], names[20], names[39]])
        left, pieces = thinned(of)
        self.assertEqual(pieces, [names[1:20], names[21:39]])
        self.assertEqual(left.ties(), [("p00", "p20"), ("p20", "p39")])


class CrossOnFoldedTest(unittest.TestCase):
    def test_joined_across_just_if_on_the_folded_one(self):
        seen = []
        for of in [F, N, W, TWO, *small_boards(150, 8, 10)]:
            if len(of.rim()) < 4:
                continue
            fours = list(combinations(of.rim(), 4))
            due = [two_apart(of, (a, c), (b, d)) for a, b, c, d in fours]
            lefts = [folded(of, lot) for lot, _ in all_pieces(of)] + [fold_row(of)[0], thinned(of)[0]]
            for left in lefts:
                self.assertEqual([two_apart(left, (a, c), (b, d)) for a, b, c, d in fours], due)
                seen.append(any(due))
        self.assertGreater(seen.count(True), 20)
        self.assertGreater(seen.count(False), 20)


if __name__ == "__main__":
    unittest.main()

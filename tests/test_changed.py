"""Points 60, 61 and 66: boards changed by a tie or a place, and the ties that begin a cross."""

import unittest
from itertools import combinations, permutations

from byhand import crosses_by_hand, flat_board, is_cross_of, parted_rim, pinned_boards, random_board
from mustcross.boards import Board
from mustcross.changed import begins, drawn_together, let_ties, with_tie, without, without_tie
from mustcross.crosses import cross
from mustcross.drawings import drawing, share_face
from mustcross.errors import BadBoard, BothPins, HasCross, HasTie, NoPlace, NoTie
from mustcross.folding import fold_row
from support import (EMPTY, F, N, W, Z, board, no_boards, no_places, raised, raises_thing, raises_with, small_boards,
                     told_new)

BOARDS = [F, N, W, Z, EMPTY, board("p", "", "p"), board("a b c d"), *small_boards(120, 7, 161)]
CALM = [of for of in [F, W, Z, EMPTY, *small_boards(60, 6, 162), *pinned_boards(160, 7, 163)] if not crosses_by_hand(of)]
PAIRS = [with_tie, without_tie, drawn_together, begins]


def untied(of):
    """All pairs of places without a tie."""
    return [pair for pair in combinations(of.places(), 2) if pair not in of.ties()]


def drawn_by_hand(of, one, other):
    """The board in which two places are one, tie by tie."""
    name = min(one, other)
    for place in (one, other):
        name = place if place in of.rim() else name
    named = {place: name if place in (one, other) else place for place in of.places()}
    ties = {tuple(sorted((named[a], named[b]))) for a, b in of.ties()} - {(name, name)}
    return Board(sorted(set(named.values())), sorted(ties), of.rim())


class ChangedTest(unittest.TestCase):
    def test_ties_more_and_fewer(self):
        for of in BOARDS:
            for one, other in permutations(of.places(), 2):
                tie = tuple(sorted((one, other)))
                if tie in of.ties():
                    due = Board(of.places(), [row for row in of.ties() if row != tie], of.rim())
                    self.assertEqual(without_tie(of, one, other), due)
                    raises_with(self, HasTie, {"one": one, "other": other}, with_tie, of, one, other)
                else:
                    self.assertEqual(with_tie(of, one, other), Board(of.places(), [*of.ties(), tie], of.rim()))
                    for call in [without_tie, drawn_together]:
                        raises_with(self, NoTie, {"one": one, "other": other}, call, of, one, other)

    def test_one_place_twice(self):
        for of in [F, W, board("p", "", "p")]:
            for place in of.places():
                told = {"one": place, "other": place}
                raises_with(self, HasTie, told, with_tie, of, place, place)
                raises_with(self, HasTie, told, begins, of, place, place)
                raises_with(self, NoTie, told, without_tie, of, place, place)
                raises_with(self, NoTie, told, drawn_together, of, place, place)

    def test_places_fewer(self):
        for of in BOARDS:
            for place in of.places():
                due = Board([other for other in of.places() if other != place],
                            [tie for tie in of.ties() if place not in tie],
                            [pin for pin in of.rim() if pin != place])
                self.assertEqual(without(of, place), due)
        self.assertEqual(without(board("p", "", "p"), "p"), EMPTY)
        self.assertEqual(without(F, "b").rim(), ["a", "c", "d"])

    def test_drawn_together(self):
        seen = 0
        for of in BOARDS:
            for one, other in of.ties():
                if one in of.rim() and other in of.rim():
                    for row in [(one, other), (other, one)]:
                        raises_with(self, BothPins, {"one": row[0], "other": row[1]}, drawn_together, of, *row)
                else:
                    due = drawn_by_hand(of, one, other)
                    self.assertEqual(drawn_together(of, one, other), due)
                    self.assertEqual(drawn_together(of, other, one), due)
                    seen += bool(set(of.ties_of(one)) & set(of.ties_of(other)))
        self.assertGreater(seen, 100)

    def test_names_of_drawn_places(self):
        of = board("a b c d e", "a d, b d, b c, c d, c e, d e", "d a")
        self.assertEqual(drawn_together(of, "c", "d"), board("a b d e", "a d, b d, d e", "d a"))
        self.assertEqual(drawn_together(of, "d", "b"), board("a c d e", "a d, c d, c e, d e", "d a"))
        self.assertEqual(drawn_together(of, "c", "b"), board("a b d e", "a d, b d, b e, d e", "d a"))
        self.assertEqual(drawn_together(of, "e", "c"), board("a b c d", "a d, b d, b c, c d", "d a"))
        self.assertEqual(drawn_together(Z, "q", "p"), board("p"))

    def test_without_a_cross_they_have_none(self):
        for of in CALM:
            smaller = [without_tie(of, one, other) for one, other in of.ties()]
            smaller += [without(of, place) for place in of.places()]
            smaller += [drawn_together(of, one, other) for one, other in of.ties()
                        if one not in of.rim() or other not in of.rim()]
            self.assertFalse(any(crosses_by_hand(left) for left in smaller))


class BeginsTest(unittest.TestCase):
    def test_examples(self):
        self.assertEqual(let_ties(W), [("a", "b"), ("a", "d"), ("b", "c"), ("c", "d")])
        self.assertEqual(begins(W, "a", "c"), (["a", "c"], ["b", "x", "d"]))
        self.assertEqual(begins(W, "c", "a"), (["a", "c"], ["b", "x", "d"]))
        self.assertIsNone(begins(W, "a", "b"))

    def test_by_all_ways(self):
        seen = [0, 0]
        for of in CALM:
            let = []
            for one, other in untied(of):
                more = with_tie(of, one, other)
                told = begins(of, one, other)
                self.assertEqual(told is not None, crosses_by_hand(more))
                self.assertEqual(begins(of, other, one), told)
                seen[told is not None] += 1
                if told is None:
                    let.append((one, other))
                    continue
                self.assertEqual(told, cross(more))
                self.assertTrue(is_cross_of(more, told))
                self.assertTrue(any({one, other} == set(step) for way in told for step in zip(way, way[1:])))
            self.assertEqual(let_ties(of), let)
        self.assertGreater(min(seen), 100)

    def test_few_pins_and_no_ties(self):
        for of in [EMPTY, Z, board("a b c d"), board("a b c d", "a b", "c d a")]:
            self.assertEqual(let_ties(of), untied(of))
        bare = board("a b c d", "", "a b c d")
        self.assertEqual(let_ties(bare), untied(bare))

    def test_by_faces_of_what_cannot_be_folded(self):
        for seed in range(12):
            of = flat_board(seed, 9, 7, 90, 1)
            left = fold_row(of)[0]
            orders = drawing(left)
            let = [pair for pair in untied(left) if share_face(left, orders, *pair)]
            self.assertEqual(let_ties(left), let)

    def test_places_of_a_piece_and_its_feet_are_let(self):
        for seed in range(6):
            of = flat_board(seed, 8, 6, 90, 2)
            let = let_ties(of)
            for piece, around in fold_row(of)[1]:
                for pair in combinations(sorted([*piece, *around]), 2):
                    self.assertTrue(pair in let or pair in of.ties())

    def test_boards_at_the_limit(self):
        for seed in range(3):
            full = parted_rim(8, [3, 1, 4, 2, 2], seed)
            self.assertEqual(len(full.places()), 20)
            self.assertEqual(let_ties(full), [])
            tie = full.ties()[7 * seed]
            left = without_tie(full, *tie)
            self.assertIn(tie, let_ties(left))
            self.assertIsNone(begins(left, *tie))
        bare = Board(full.places(), [], full.rim())
        self.assertEqual(let_ties(bare), untied(bare))

    def test_has_cross(self):
        for call in [lambda of: begins(of, None, None), let_ties]:
            for of in [N, *[of for of in BOARDS if crosses_by_hand(of)], random_board(3, 20, 60, 6)]:
                ways = raised(self, HasCross, call, of).ways
                self.assertEqual(ways, cross(of))
                self.assertTrue(is_cross_of(of, ways))


class WrongTest(unittest.TestCase):
    def test_order_of_errors(self):
        for call in PAIRS:
            for thing in no_boards():
                raises_thing(self, BadBoard, thing, call, thing, None, None)
            for thing in no_places():
                raises_thing(self, NoPlace, thing, call, F, thing, None)
                raises_thing(self, NoPlace, thing, call, F, "a", thing)
        for thing in no_boards():
            raises_thing(self, BadBoard, thing, without, thing, None)
            raises_thing(self, BadBoard, thing, let_ties, thing)
        for thing in no_places():
            raises_thing(self, NoPlace, thing, without, F, thing)
        raises_with(self, HasTie, {"one": "x", "other": "b"}, begins, W, "x", "b")
        both = board("a b", "a b", "b a")
        raises_with(self, BothPins, {"one": "b", "other": "a"}, drawn_together, both, "b", "a")

    def test_told_new(self):
        told_new(self, lambda: begins(W, "a", "c"))
        told_new(self, lambda: let_ties(W))
        ahead = Board(W.places(), W.ties(), W.rim())
        for call in PAIRS:
            try:
                call(W, "a", "x")
            except (HasTie, NoTie):
                pass
        self.assertEqual(W, ahead)


if __name__ == "__main__":
    unittest.main()

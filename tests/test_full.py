"""Points 62 and 66: full boards, and how many ties a board can have without a cross."""

import unittest
from itertools import combinations

from byhand import crosses_by_hand, flat_board, parted_rim, random_board
from mustcross.boards import Board
from mustcross.changed import let_ties, with_tie, without_tie
from mustcross.bothways import has_cross
from mustcross.crosses import cross
from mustcross.errors import BadBoard, BadNumber, HasCross
from mustcross.folding import fold_row
from mustcross.full import filled, is_full, most_ties
from support import EMPTY, F, N, W, Z, board, no_boards, no_numbers, raised, raises_thing, small_boards

BOARDS = [F, N, W, Z, EMPTY, board("p", "", "p"), *small_boards(150, 6, 171)]


def full_by_hand(of):
    """Whether a board has no cross and none is let with any tie more, by going through all ways."""
    pairs = [pair for pair in combinations(of.places(), 2) if pair not in of.ties()]
    return not crosses_by_hand(of) and all(crosses_by_hand(with_tie(of, *pair)) for pair in pairs)


class FullTest(unittest.TestCase):
    def test_examples(self):
        full = filled(W)
        self.assertEqual(full, board("a b c d x", "a x, b x, c x, d x, a b, b c, c d, a d", "a b c d"))
        self.assertIs(is_full(full), True)
        self.assertIs(is_full(W), False)
        self.assertEqual(most_ties(4, 1), 8)

    def test_by_all_ways(self):
        seen = 0
        for of in BOARDS:
            self.assertIs(is_full(of), full_by_hand(of))
            if not crosses_by_hand(of):
                full = filled(of)
                self.assertEqual((full.places(), full.rim()), (of.places(), of.rim()))
                self.assertLessEqual(set(of.ties()), set(full.ties()))
                self.assertTrue(full_by_hand(full))
                self.assertIs(is_full(full), True)
                self.assertEqual(filled(full), full)
                seen += len(full.ties()) > len(of.ties())
        self.assertGreater(seen, 40)

    def test_few_pins(self):
        for rim in ["", "c", "b e"]:
            of = board("a b c d e", "a b", rim)
            self.assertEqual(len(filled(of).ties()), 10)
            self.assertIs(is_full(of), False)
            self.assertIs(is_full(filled(of)), True)
        for of in [EMPTY, board("p"), Z, board("p", "", "p")]:
            self.assertIs(is_full(of), True)
            self.assertEqual(filled(of), of)

    def test_boards_parted_into_triangles(self):
        for seed, (pins, sizes) in enumerate([(3, [5]), (4, [2]), (5, [1, 2, 3]), (8, []), (8, [3, 1, 4, 2, 2]),
                                              (9, [2, 3, 1, 4]), (6, [1, 1, 1, 1]), (20, [])]):
            full = parted_rim(pins, sizes, seed)
            self.assertIs(is_full(full), True)
            self.assertEqual(filled(full), full)
            due = 2 * pins - 3 + sum(many * (many - 1) // 2 + 3 * many for many in sizes)
            self.assertEqual(len(full.ties()), due)
            self.assertIs(has_cross(full), False)
            fewer = without_tie(full, *full.ties()[seed])
            self.assertIs(is_full(fewer), False)
            self.assertIs(is_full(filled(fewer)), True)
            self.assertLessEqual(set(fewer.ties()), set(filled(fewer).ties()))

    def test_facts_of_full_boards(self):
        for seed in range(8):
            of = flat_board(seed, 7, 5 + seed % 4, 70, seed % 3)
            full = filled(of)
            self.assertEqual(let_ties(full), [])
            left, row = fold_row(full)
            inner = len(left.places()) - len(left.rim())
            due = 2 * len(left.rim()) - 3 + 3 * inner
            for piece, feet in row:
                self.assertEqual(len(feet), 3)
                due += len(piece) * (len(piece) - 1) // 2 + 3 * len(piece)
                for one, other in combinations(sorted(piece + feet), 2):
                    self.assertIn((one, other), full.ties())
            self.assertEqual(len(full.ties()), due)

    def test_is_the_same_for_equal_boards(self):
        for of in [W, F, flat_board(1, 8, 6, 60)]:
            again = Board(of.places()[::-1], [tie[::-1] for tie in of.ties()[::-1]], of.rim())
            first = filled(of)
            let_ties(of)
            self.assertEqual(filled(again), first)

    def test_errors(self):
        for thing in no_boards():
            raises_thing(self, BadBoard, thing, filled, thing)
            raises_thing(self, BadBoard, thing, is_full, thing)
        for of in [N, random_board(1, 20, 60, 6)]:
            self.assertEqual(raised(self, HasCross, filled, of).ways, cross(of))
            self.assertIs(is_full(of), False)


class MostTiesTest(unittest.TestCase):
    def test_by_all_boards(self):
        for many in range(6):
            places = list("abcde"[:many])
            pairs = list(combinations(places, 2))
            for pins in range(many + 1):
                best = max(bits.bit_count() for bits in range(1 << len(pairs))
                           if not has_cross(Board(places, [pair for at, pair in enumerate(pairs) if bits >> at & 1],
                                                  places[:pins])))
                self.assertEqual(most_ties(pins, many - pins), best)

    def test_formula_and_limits(self):
        self.assertEqual([most_ties(pins, 0) for pins in range(7)], [0, 0, 1, 3, 5, 7, 9])
        self.assertEqual([most_ties(2, others) for others in range(4)], [1, 3, 6, 10])
        self.assertEqual([most_ties(3, others) for others in range(4)], [3, 6, 10, 15])
        self.assertEqual(most_ties(10 ** 4, 10 ** 4), 10 ** 4 * 9999 // 2 + 5 * 10 ** 4 - 3)
        self.assertEqual(most_ties(0, 10 ** 4), 10 ** 4 * 9999 // 2)
        for seed in range(3):
            full = parted_rim(6, [5], seed)
            self.assertEqual(len(full.ties()), most_ties(6, 5))

    def test_bad_numbers(self):
        for thing in no_numbers():
            raises_thing(self, BadNumber, thing, most_ties, thing, None)
            raises_thing(self, BadNumber, thing, most_ties, 4, thing)


if __name__ == "__main__":
    unittest.main()

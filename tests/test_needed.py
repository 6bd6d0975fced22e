"""Points 63, 64 and 66: ties and places that a cross needs, and the fewest new ties for one."""

import unittest
from itertools import combinations

from byhand import crosses_by_hand, hung_ways, is_picture_of, parted_rim, pinned_boards, random_board
from mustcross.boards import Board
from mustcross.bothways import has_cross, thinned_to_cross
from mustcross.changed import let_ties, with_tie, without, without_tie
from mustcross.crosses import cross
from mustcross.errors import BadBoard, NoCross
from mustcross.needed import least_new, needed_places, needed_ties
from mustcross.pictures import picture
from support import EMPTY, F, N, W, Z, board, no_boards, raised, raises_thing, small_boards, told_new

CROSSED = [of for of in [N, *pinned_boards(200, 7, 181)] if crosses_by_hand(of)]
CALM = [of for of in [F, W, Z, EMPTY, *small_boards(60, 6, 182), *pinned_boards(80, 6, 183)] if not crosses_by_hand(of)]
WX = with_tie(W, "a", "c")


class NeededTest(unittest.TestCase):
    def test_examples(self):
        self.assertEqual(needed_ties(WX), [("a", "c"), ("b", "x"), ("d", "x")])
        self.assertEqual(needed_places(WX), ["x"])
        self.assertEqual(needed_ties(N), [("a", "x"), ("b", "y"), ("c", "x"), ("d", "y")])
        self.assertEqual(needed_places(N), ["x", "y"])

    def test_by_all_ways(self):
        seen = [0, 0]
        for of in CROSSED:
            ties = [tie for tie in of.ties() if not crosses_by_hand(without_tie(of, *tie))]
            inner = [place for place in of.places() if place not in of.rim()]
            self.assertEqual(needed_ties(of), ties)
            self.assertEqual(needed_places(of), [place for place in inner if not crosses_by_hand(without(of, place))])
            seen[bool(ties)] += 1
        self.assertGreater(min(seen), 20)

    def test_just_one_of_a_cross_and_a_picture_without_a_tie(self):
        for of in CROSSED[:60]:
            needed = needed_ties(of)
            for tie in of.ties():
                left = without_tie(of, *tie)
                self.assertEqual(cross(left) is None, tie in needed)
                if tie in needed:
                    self.assertTrue(is_picture_of(left, picture(left)))

    def test_each_cross_goes_over_all(self):
        for of in CROSSED:
            ways = cross(of)
            steps = [tuple(sorted(step)) for way in ways for step in zip(way, way[1:])]
            self.assertLessEqual(set(needed_ties(of)), set(steps))
            self.assertLessEqual(set(needed_places(of)), {place for way in ways for place in way})

    def test_boards_all_of_whose_ties_are_needed(self):
        for of in [*CROSSED[:60], random_board(1, 20, 60, 6)]:
            left = thinned_to_cross(of)
            self.assertEqual(needed_ties(left), left.ties())
            inner = {place for tie in left.ties() for place in tie} - set(of.rim())
            self.assertEqual(needed_places(left), sorted(inner))

    def test_two_long_ways_with_pieces(self):
        for seed in range(6):
            of = hung_ways(seed, 4 + seed, 7 - seed, 3)
            self.assertEqual(len(of.places()), 20)
            ways = [tie for tie in of.ties() if tie[0][0] != "k" and tie[1][0] != "k"]
            self.assertEqual(needed_ties(of), ways)
            self.assertEqual(needed_places(of), sorted({place for tie in ways for place in tie} - set(of.rim())))

    def test_many_ways_need_nothing(self):
        for of in [random_board(1, 20, 190, 8), random_board(2, 20, 100, 20)]:
            self.assertEqual(needed_ties(of), [])
            self.assertEqual(needed_places(of), [])

    def test_errors_and_told_new(self):
        for call in [needed_ties, needed_places]:
            for thing in no_boards():
                raises_thing(self, BadBoard, thing, call, thing)
            for of in CALM[:30]:
                raised(self, NoCross, call, of)
            told_new(self, lambda: call(WX))


class LeastNewTest(unittest.TestCase):
    def due(self, of):
        pairs = [pair for pair in combinations(of.places(), 2) if pair not in of.ties()]
        for many in range(3):
            for row in combinations(pairs, many):
                if crosses_by_hand(Board(of.places(), [*of.ties(), *row], of.rim())):
                    return list(row)
        return None

    def test_examples(self):
        self.assertEqual(least_new(W), [("a", "c")])
        self.assertEqual(least_new(board("a b c d", "", "a b c d")), [("a", "c"), ("b", "d")])
        self.assertEqual(least_new(N), [])

    def test_by_all_ways(self):
        seen = [0, 0, 0, 0]
        for of in [*CALM, *CROSSED[:40]]:
            told = least_new(of)
            self.assertEqual(told, self.due(of))
            self.assertEqual(told is None, len(of.rim()) < 4)
            seen[3 if told is None else len(told)] += 1
            if told:
                pairs = [pair for pair in combinations(of.places(), 2) if pair not in of.ties()]
                self.assertEqual(len(told) == 1, pairs != let_ties(of))
        self.assertGreater(min(seen), 5)

    def test_boards_at_the_limit(self):
        bare = board("a b c d e f g h i j", "", "e f g h")
        self.assertEqual(least_new(bare), [("e", "g"), ("f", "h")])
        thin = board("a b c d e f g h i j", "a b, b c, c d", "j h e a")
        self.assertEqual(least_new(thin), [("a", "h"), ("e", "j")])
        for seed in range(3):
            full = parted_rim(6, [3, 1], seed)
            told = least_new(full)
            self.assertEqual(len(told), 1)
            self.assertTrue(has_cross(with_tie(full, *told[0])))
        self.assertIsNone(least_new(board("a b c d e f g h i j", "a b, b c", "a b c")))

    def test_errors_and_told_new(self):
        for thing in no_boards():
            raises_thing(self, BadBoard, thing, least_new, thing)
        told_new(self, lambda: least_new(W))
        told_new(self, lambda: least_new(N))


if __name__ == "__main__":
    unittest.main()

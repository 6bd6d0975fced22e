"""Points 31, 33, 34, 35 and 36: crosses, what bears on whether there is one, and the least ties of one."""

import unittest
from itertools import combinations
from random import Random

from byhand import (crossed_grid, crosses_by_hand, flat_board, grid, is_cross_of, is_picture_of, is_way,
                    random_board, with_rim)
from mustcross.boards import Board
from mustcross.bothways import has_cross, thinned_to_cross
from mustcross.crosses import cross, is_cross
from mustcross.errors import BadBoard
from mustcross.folding import fold_row, folded
from mustcross.pictures import picture
from support import (EMPTY, F, N, W, Z, all_pieces, all_ways, board, listed, no_boards, odd_things, raises_thing,
                     small_boards, told_new, tupled)

WX = board("a b c d x", "a c, a x, b x, c x, d x", "a b c d")
BARE = board("a b c d", "a c, b d", "a b c d")
OVER = board("a b c d e f", "a b, b d, c f, e f", "a c b d e")
# In these no cross has a way that is as short as can be.
HARD = [crossed_grid(seed, wide, 4)
        for seed, wide in [(45, 3), (60, 3), (333, 3), (336, 3), (11, 4), (138, 4), (124, 4)]]
BOARDS = [F, N, W, Z, EMPTY, WX, BARE, OVER, *small_boards(500, 7, 71), *small_boards(250, 8, 72)]
GREAT = [*HARD, grid(6, 6, [(2, 2)], "corners"), grid(5, 8, [(1, 1)], "corners"),
         grid(6, 6, [(2, 2)]), grid(5, 8, [(3, 6)]),
         *[random_board(seed, 40, 100, pins) for seed, pins in enumerate([4, 5, 8, 16, 40])],
         random_board(7, 40, 780, 4), random_board(8, 40, 400, 12), random_board(9, 40, 70, 6)]


def told_right(of, ways):
    """Whether a cross is told as it should be."""
    return (isinstance(ways, tuple) and all(isinstance(way, list) for way in ways) and is_cross_of(of, ways)
            and all(way[0] < way[-1] for way in ways) and ways[0][0] < ways[1][0])


class CrossTest(unittest.TestCase):
    def test_examples(self):
        self.assertEqual(cross(N), (["a", "x", "c"], ["b", "y", "d"]))
        self.assertEqual(cross(WX), (["a", "c"], ["b", "x", "d"]))
        self.assertEqual(cross(BARE), (["a", "c"], ["b", "d"]))
        for of in [W, F, Z, EMPTY]:
            self.assertIsNone(cross(of))

    def test_just_if_two_ways_alternate(self):
        for of in BOARDS:
            there = crosses_by_hand(of)
            told = cross(of)
            self.assertIs(has_cross(of), there)
            self.assertEqual(told is not None, there, (of.places(), of.ties(), of.rim()))
            if there:
                self.assertTrue(told_right(of, told))
                self.assertTrue(is_cross(of, told))

    def test_great_boards(self):
        for of in GREAT:
            told = cross(of)
            self.assertTrue(told_right(of, told))
            self.assertIs(has_cross(of), True)
            self.assertIsNone(picture(of))

    def test_great_boards_without_a_cross(self):
        for seed in range(8):
            of = flat_board(seed, 20 - seed, 4 + 2 * seed, 100 - 5 * seed, seed % 4)
            self.assertIsNone(cross(of))
            self.assertIs(has_cross(of), False)
            self.assertTrue(is_picture_of(of, picture(of)))

    def test_one_tie_more_on_a_flat_board(self):
        chance = Random(5)
        for seed in range(12):
            flat = flat_board(seed, 22, 6, 100, 1)
            for tie in chance.sample([row for row in combinations(flat.places(), 2) if row not in flat.ties()], 4):
                of = Board(flat.places(), [*flat.ties(), tie], flat.rim())
                told, other = cross(of), picture(of)
                self.assertNotEqual(told is None, other is None)
                self.assertTrue(told_right(of, told) if told else is_picture_of(of, other))

    def test_boards_where_no_short_way_crosses(self):
        for of in HARD:
            self.assertTrue(crosses_by_hand(of))
            for one, other in [("p00", "p10"), ("p01", "p11"), ("p12", "p13")]:
                less = Board(of.places(), [tie for tie in of.ties() if tie != (one, other)], of.rim())
                self.assertEqual(cross(less) is not None, crosses_by_hand(less))

    def test_fewer_than_four_pins(self):
        full = list(combinations("abcde", 2))
        for many in range(4):
            self.assertIsNone(cross(Board(list("abcde"), full, list("abc")[:many])))
        self.assertIsNotNone(cross(Board(list("abcde"), full, list("abcd"))))

    def test_over_other_pins(self):
        over = board("a b c d e", "a e, e c, b d", "a e b c d")
        self.assertEqual(cross(over), (["b", "d"], ["c", "e"]))
        self.assertTrue(is_cross(over, (["a", "e", "c"], ["b", "d"])))

    def test_bad_board_told_new_and_the_same(self):
        for call in [cross, has_cross, thinned_to_cross]:
            for thing in no_boards():
                raises_thing(self, BadBoard, thing, call, thing)
        told_new(self, lambda: cross(N))
        of = grid(4, 4, [(1, 1)])
        first = cross(of)
        cross(N)
        self.assertEqual(cross(Board(of.places()[::-1], [tie[::-1] for tie in of.ties()[::-1]], of.rim())), first)


class IsCrossTest(unittest.TestCase):
    def test_either_way_first_and_about(self):
        one, other = ["a", "x", "c"], ["b", "y", "d"]
        for ways in [(one, other), (other, one), (one[::-1], other), (other[::-1], one[::-1])]:
            for thing in [ways, listed(ways), tupled(ways)]:
                self.assertIs(is_cross(N, thing), True)

    def test_all_pairs_of_ways(self):
        for of in small_boards(80, 5, 73):
            ways = all_ways(of, of.places(), of.places())[::2]
            for one in ways[:60]:
                for other in ways[-60:]:
                    self.assertIs(is_cross(of, [one, other]), is_cross_of(of, (one, other)))

    def test_any_object(self):
        one, other = ["a", "x", "c"], ["b", "y", "d"]
        for thing in [*odd_things(), (one,), (one, other, one), (one, one), {0: one, 1: other}, (one, "byd"),
                      (one, ["b", "d"]), (one, ["b", "y", "zz"]), (one, ["b", "y", 1]), (one, ["b", "y", ["d"]]),
                      (one, None), (one, F), (one, ["b", "x", "d"]), (one, ["b", "y"]), (["a"], other),
                      (["a"], ["b"]), (one, []), ([], []), (["x", "a"], other), (["a", "x", "a"], other),
                      (["a", "x", "y", "b"], ["c", "x", "d"]), "xy", N]:
            self.assertIs(is_cross(N, thing), False)
        self.assertIs(is_cross(board("a b c d", "a b, c d", "a b c d"), (["a", "b"], ["c", "d"])), False)
        self.assertIs(is_cross(board("a b c d", "a c, b d", "a b c"), (["a", "c"], ["b", "d"])), False)
        for thing in no_boards():
            raises_thing(self, BadBoard, thing, is_cross, thing, None)


class BearingTest(unittest.TestCase):
    """What bears on whether there is a cross, and what does not."""

    def test_folding_a_piece(self):
        for of in BOARDS[:350]:
            for piece, _ in all_pieces(of):
                self.assertIs(has_cross(folded(of, piece)), has_cross(of))

    def test_where_the_rim_begins_and_which_way_round(self):
        for of in BOARDS[:350] + GREAT[:4]:
            rim = of.rim()
            for at in range(0, len(rim), 1 + len(rim) // 6):
                for turned in [rim[at:] + rim[:at], (rim[at:] + rim[:at])[::-1]]:
                    self.assertIs(has_cross(with_rim(of, turned)), has_cross(of))

    def test_ties_between_neighbours_on_the_rim(self):
        for of in BOARDS[:350]:
            rim = of.rim()
            ring = [tuple(sorted(tie)) for tie in zip(rim, rim[1:] + rim[:1]) if tie[0] != tie[1]]
            for ties in [set(of.ties()) | set(ring), set(of.ties()) - set(ring)]:
                self.assertIs(has_cross(Board(of.places(), sorted(ties), rim)), has_cross(of))

    def test_a_place_put_on_a_tie(self):
        for of in BOARDS[:200]:
            for tie in of.ties():
                ties = [row for row in of.ties() if row != tie] + [(tie[0], "z"), ("z", tie[1])]
                self.assertIs(has_cross(Board([*of.places(), "z"], ties, of.rim())), has_cross(of))

    def test_whichever_pieces_are_folded(self):
        chance = Random(6)
        for of in BOARDS[:300]:
            left = of
            while all_pieces(left):
                left = folded(left, chance.choice(all_pieces(left))[0])
            self.assertIs(picture(left) is None, has_cross(of))
            self.assertEqual(picture(fold_row(of)[0]) is None, has_cross(of))


class CutTest(unittest.TestCase):
    def test_one_part_at_a_pin_crosses_too(self):
        seen = 0
        for of in small_boards(200, 6, 74):
            rim = of.rim()
            ways = [way for way in all_ways(of, rim, rim) if len(way) > 1]
            for one in ways:
                for other in ways:
                    if is_cross_of(of, (one, other)):
                        for at in range(1, len(one) - 1):
                            if one[at] in rim:
                                seen += 1
                                parts = [one[:at + 1], one[at:]]
                                self.assertTrue(any(is_cross_of(of, (part, other)) for part in parts))
        self.assertGreater(seen, 50)

    def test_there_is_one_with_pins_at_ends_alone(self):
        for of in [*BOARDS, *GREAT]:
            told = thinned_to_cross(of)
            if told is not None:
                for way in cross(told):
                    self.assertFalse(set(way[1:-1]) & set(of.rim()))


class ThinnedToCrossTest(unittest.TestCase):
    def test_examples(self):
        self.assertEqual(thinned_to_cross(N), board("a b c d x y", "a x, b y, c x, d y", "a b c d"))
        self.assertEqual(thinned_to_cross(WX), board("a b c d x", "a c, b x, d x", "a b c d"))
        for of in [W, F, Z, EMPTY]:
            self.assertIsNone(thinned_to_cross(of))

    def look(self, of):
        told = thinned_to_cross(of)
        self.assertEqual((told.places(), told.rim()), (of.places(), of.rim()))
        self.assertLessEqual(set(told.ties()), set(of.ties()))
        ways = cross(told)
        steps = [tuple(sorted(step)) for way in ways for step in zip(way, way[1:])]
        self.assertEqual(sorted(steps), told.ties())
        self.assertTrue(is_cross_of(told, ways))
        self.assertTrue(all(is_way(of, way) and not set(way[1:-1]) & set(of.rim()) for way in ways))
        return told

    def test_no_tie_can_go(self):
        for of in BOARDS:
            if crosses_by_hand(of):
                told = self.look(of)
                for tie in told.ties():
                    less = Board(told.places(), [row for row in told.ties() if row != tie], told.rim())
                    self.assertFalse(crosses_by_hand(less))
            else:
                self.assertIsNone(thinned_to_cross(of))

    def test_great_boards(self):
        for of in GREAT:
            told = self.look(of)
            for tie in told.ties():
                less = Board(told.places(), [row for row in told.ties() if row != tie], told.rim())
                self.assertFalse(has_cross(less))


if __name__ == "__main__":
    unittest.main()

"""Points 79 and 80: a board put within another one in the place of a place."""

import unittest
from itertools import combinations, permutations
from random import Random

from byhand import crosses_by_hand, flat_board, parted_rim, pinned_boards
from mustcross.boards import Board
from mustcross.bothways import has_cross
from mustcross.drawings import drawing
from mustcross.errors import BadBoard, IsPin, NoPlace, NotWithin
from mustcross.pictures import picture
from mustcross.within import within
from support import (EMPTY, F, N, W, Z, board, no_boards, no_places, raised, raises_thing, raises_with,
                     small_boards)


def filling(pins, chance):
    """A board with just these pins, and some places of its own."""
    own = list("mnor"[:chance.randint(0, 4)])
    ties = [tie for tie in combinations([*pins, *own], 2) if chance.randrange(100) < 45]
    return Board([*pins, *own], ties, chance.sample(pins, len(pins)))


class WithinTest(unittest.TestCase):
    def test_example_of_three_ties(self):
        three = board("a b c x", "a x, b x, c x", "a b c")
        for rim in permutations("abc"):
            other = Board(list("abcyz"), [("a", "y"), ("b", "z"), ("c", "y"), ("y", "z")], rim)
            self.assertEqual(within(three, "x", other),
                             board("a b c y z", "a y, b z, c y, y z", "a b c"))

    def test_places_ties_and_rim(self):
        chance = Random(1)
        seen = 0
        for of in [F, N, W, Z, *small_boards(60, 7, 231), *pinned_boards(60, 8, 232)]:
            for place in of.places():
                if place not in of.rim():
                    other = filling(of.ties_of(place), chance)
                    due = {tie for tie in of.ties() if place not in tie} | set(other.ties())
                    if not set(other.places()) & set(of.places()) - set(of.ties_of(place)):
                        told = within(of, place, other)
                        self.assertEqual(told.places(), sorted({*of.places(), *other.places()} - {place}))
                        self.assertEqual(told.ties(), sorted(due))
                        self.assertEqual(told.rim(), of.rim())
                        seen += 1
        self.assertGreater(seen, 100)

    def test_a_place_without_ties(self):
        self.assertEqual(within(board("a x", "", "a"), "x", board("y z", "y z")), board("a y z", "y z", "a"))
        self.assertEqual(within(board("x"), "x", EMPTY), EMPTY)
        raised(self, NotWithin, within, board("x y"), "x", board("y"))

    def test_ties_that_both_have(self):
        of = board("a b c x", "a x, b x, a b", "a b c")
        self.assertEqual(within(of, "x", board("a b y", "a b, a y", "b a")), board("a b c y", "a b, a y", "a b c"))

    def test_without_a_cross_if_the_ring_is_the_rim(self):
        chance = Random(2)
        seen = [0, 0]
        for of in [W, F, *small_boards(80, 7, 233), *pinned_boards(500, 8, 234)]:
            if not crosses_by_hand(of):
                orders = drawing(of) or picture(of)[1]
                for place in orders:
                    ring = orders[place]
                    if place not in of.rim() and len(ring) < 6:
                        other = filling(of.ties_of(place), chance)
                        at = chance.randrange(len(ring)) if ring else 0
                        rim = (ring[at:] + ring[:at])[::chance.choice([1, -1])]
                        other = Board(other.places(), other.ties(), rim)
                        if set(ring) == set(of.ties_of(place)) and not crosses_by_hand(other):
                            whole = within(of, place, other)
                            self.assertFalse(crosses_by_hand(whole))
                            seen[len(ring) > 3] += 1
        self.assertGreater(min(seen), 15)

    def test_great_boards(self):
        full = parted_rim(8, [1, 1, 1, 1], 3)
        for place in ["v00", "v10", "v20", "v30"]:
            other = Board([*full.ties_of(place), *"stuv"], list(combinations([*full.ties_of(place), *"stuv"], 2)),
                          full.ties_of(place))
            full = within(full, place, Board(other.places(), other.ties(), other.rim()[::-1]))
            names = {one: f"k{place[1]}{one}" if one in "stuv" else one for one in full.places()}
            full = Board(list(names.values()), [(names[one], names[to]) for one, to in full.ties()], full.rim())
        self.assertEqual(len(full.places()), 24)
        self.assertIs(has_cross(full), False)
        of = flat_board(4, 20, 9, 100)
        orders = picture(of)[1]
        seen = 0
        for place in orders:
            ring = orders[place]
            if place not in of.rim() and sorted(ring) == of.ties_of(place):
                star = Board([*ring, "z"], [(pin, "z") for pin in ring], ring[::-1])
                self.assertIs(has_cross(within(of, place, star)), False)
                seen += 1
        self.assertGreater(seen, 3)

    def test_just_the_places_tied_to_the_place(self):
        of = board("a b c d e x", "a x, b x, c x, d x, e a", "a b c d")
        self.assertEqual(within(of, "x", board("a b c d", "", "c a d b")), board("a b c d e", "e a", "a b c d"))
        for other in [board("a b c", "", "a b c"), board("a b c d e", "", "a b c d e"), EMPTY, W,
                      board("a b c d", "", "a b c"), board("a b c d e", "", "a b c d"),
                      board("a b c d x", "", "a b c d"), board("a b c x", "", "a b c x")]:
            raised(self, NotWithin, within, of, "x", other)
        self.assertEqual(within(F, "v", board("u x", "", "x u")).places(), list("abcdux"))
        for other in [board("a u x", "", "u x"), board("u v x", "", "u x"), board("u x", "", "u"), board("u", "", "u"),
                      board("u v x", "", "u v x")]:
            raised(self, NotWithin, within, F, "v", other)

    def test_order_of_errors(self):
        for thing in no_boards():
            raises_thing(self, BadBoard, thing, within, thing, None, None)
            raises_thing(self, BadBoard, thing, within, F, "x", thing)
        for thing in no_places():
            raises_thing(self, NoPlace, thing, within, F, thing, None)
        for pin in F.rim():
            raises_with(self, IsPin, {"place": pin}, within, F, pin, None)


if __name__ == "__main__":
    unittest.main()

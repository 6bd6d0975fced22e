"""Points 72, 73 and 74: boards that join apart the same told pairs, or more."""

import unittest
from itertools import combinations
from random import Random

from byhand import crosses_by_hand, flat_board, joined_by_hand, pinned_boards, with_rim
from mustcross.alike import alike, are_parting, better_paper, is_better, parting_pairs
from mustcross.boards import Board
from mustcross.changed import without_tie
from mustcross.codes import all_codes, board_for, code
from mustcross.crosses import cross
from mustcross.errors import BadBoard, HasCross, OtherRim
from mustcross.folding import fold_row
from mustcross.joined import joined
from support import (EMPTY, F, N, W, Z, board, listed, no_boards, no_places, odd_things, raised, raises_thing,
                     small_boards, told_new, tupled, unchanged)

CALLS = [alike, parting_pairs, lambda one, other: are_parting(one, other, None), is_better, better_paper]


def all_pairs(rim):
    """All lists of pairs of pins, no pin twice, each told one way."""
    if not rim:
        return [[]]
    found = all_pairs(rim[1:])
    for other in rim[1:]:
        found = found + [[(rim[0], other), *rest] for rest in all_pairs([pin for pin in rim[1:] if pin != other])]
    return found


def joined_sets(of):
    """All lists of pairs that a board joins apart, by going through all ways."""
    return [pairs for pairs in all_pairs(of.rim()) if joined_by_hand(of, pairs)]


def calm_with_rim(rim, many, seed):
    """Some boards without a cross with one rim."""
    found = []
    for of in pinned_boards(many, 7, seed):
        names = dict(zip(of.rim(), rim))
        if len(names) == len(rim):
            names.update({place: "k" + place for place in of.places() if place not in names})
            one = Board(list(names.values()), [(names[a], names[b]) for a, b in of.ties()], rim)
            if not crosses_by_hand(one):
                found.append(one)
    return found


FOUR = [F, W, *calm_with_rim(list("abcd"), 60, 221)][:22]
FIVE = [*calm_with_rim(list("caebd"), 150, 222)][:14]


class AlikeTest(unittest.TestCase):
    def test_example(self):
        self.assertIs(is_better(F, W), True)
        self.assertIs(is_better(W, F), False)
        self.assertIs(alike(F, W), False)
        self.assertIs(are_parting(F, W, [("a", "b"), ("c", "d")]), True)
        self.assertIs(are_parting(W, F, [("a", "b"), ("c", "d")]), True)
        self.assertTrue(are_parting(F, W, parting_pairs(F, W)))
        self.assertIsNone(better_paper(F, W))
        self.assertTrue(are_parting(W, F, better_paper(W, F)))

    def test_by_all_ways_and_all_pairs(self):
        seen = set()
        for boards in (FOUR, FIVE):
            joins = [joined_sets(of) for of in boards]
            for (one, ours), (other, theirs) in [(a, b) for a in zip(boards, joins) for b in zip(boards, joins)]:
                self.assertIs(alike(one, other), ours == theirs)
                self.assertEqual(code(one) == code(other), ours == theirs)
                self.assertIs(is_better(one, other), all(pairs in ours for pairs in theirs))
                self.look(one, other)
                seen.add((is_better(one, other), is_better(other, one)))
        self.assertEqual(len(seen), 4)

    def look(self, one, other):
        """What is told is joined apart in just the one that is meant."""
        pairs, paper = parting_pairs(one, other), better_paper(one, other)
        self.assertEqual(pairs is None, alike(one, other))
        self.assertEqual(paper is None, is_better(one, other))
        if pairs is not None:
            self.assertTrue(isinstance(pairs, list) and all(isinstance(pair, tuple) for pair in pairs))
            self.assertEqual(joined_by_hand(one, pairs), not joined_by_hand(other, pairs))
            self.assertIs(are_parting(one, other, pairs), True)
        if paper is not None:
            self.assertTrue(joined_by_hand(other, paper) and not joined_by_hand(one, paper))
            self.assertIs(are_parting(one, other, listed(paper)), True)

    def test_are_parting_of_all_pairs(self):
        chance = Random(1)
        for one, other in chance.sample(list(combinations(FIVE, 2)), 12):
            for pairs in all_pairs(one.rim()):
                due = joined_by_hand(one, pairs) != joined_by_hand(other, pairs)
                turned = [pair[::chance.choice([1, -1])] for pair in pairs]
                self.assertIs(are_parting(one, other, turned), due)
                self.assertIs(are_parting(other, one, tuple(turned)), due)

    def test_folded_boards_are_alike(self):
        for seed in range(6):
            of = flat_board(seed, 10, 8, 80, 2)
            left = fold_row(of)[0]
            self.assertIs(alike(of, left), True)
            self.assertIs(is_better(left, of), True)
            self.assertIsNone(parting_pairs(of, left))
            self.assertIsNone(better_paper(of, left))

    def test_great_boards(self):
        for seed in range(4):
            of = flat_board(seed, 24, 16, 90)
            fewer = without_tie(of, *of.ties()[3 * seed])
            self.assertIs(is_better(of, fewer), True)
            self.assertIs(alike(of, fewer), code(of) == code(fewer))
            other = with_rim(flat_board(seed + 9, 24, 16, 80), of.rim())
            pairs, paper = parting_pairs(of, other), better_paper(of, other)
            self.assertNotEqual(joined(of, pairs) is None, joined(other, pairs) is None)
            if paper is not None:
                self.assertTrue(joined(of, paper) is None and joined(other, paper) is not None)
            self.assertIs(is_better(of, other), paper is None)

    def test_all_codes_of_four_pins(self):
        rim = list("dbac")
        boards = [board_for(rim, rings) for rings in all_codes(rim)]
        for one in boards:
            self.assertEqual([of for of in boards if alike(one, of)], [one])

    def test_few_pins(self):
        for rim in ["", "p", "p q"]:
            one, other = board("p q", "", rim), board("p q r", "p r, q r", rim)
            self.assertIs(alike(one, other), rim != "p q")
            self.assertIs(is_better(other, one), True)
            self.assertIs(is_better(one, other), rim != "p q")
            self.look(one, other)

    def test_any_object(self):
        for thing in [*odd_things(), "ab", [("a", "b"), ("c", "c")], [("a", "b"), ("b", "c")], [("a", "x"), ("c", "d")],
                      [("a", "b"), ("c", "d", "d")], [("a", "b"), "cd"], [("a", "b"), ("c", None)],
                      [("a", "b"), {"c": "d"}], [("a", "b"), ("c", ["d"])], {0: ("a", "b"), 1: ("c", "d")},
                      [("a", "b"), ("c", "u")], [("a", "b"), None], [("a", "b")], [("a", "c"), ("b", "d")]]:
            self.assertIs(are_parting(F, W, thing), False, thing)
        for thing in no_places():
            self.assertIs(are_parting(F, W, [("a", "b"), ("c", thing)]), False)
        self.assertIs(are_parting(F, W, tupled([("b", "a"), ("c", "d")])), True)


class WrongTest(unittest.TestCase):
    def test_order_of_errors(self):
        turned = with_rim(W, list("bcda"))
        for call in CALLS:
            for thing in no_boards():
                raises_thing(self, BadBoard, thing, call, thing, None)
                raises_thing(self, BadBoard, thing, call, N, thing)
            self.assertEqual(raised(self, HasCross, call, N, Z).ways, cross(N))
            self.assertEqual(raised(self, HasCross, call, W, N).ways, cross(N))
            bare = board("a b c d", "a c, b d", "a b c d")
            self.assertEqual(raised(self, HasCross, call, bare, N).ways, cross(bare))
            for one, other in [(W, turned), (turned, W), (W, EMPTY), (Z, F), (W, with_rim(W, list("dcba")))]:
                raised(self, OtherRim, call, one, other)

    def test_told_new_and_unchanged(self):
        told_new(self, lambda: parting_pairs(F, W))
        told_new(self, lambda: better_paper(W, F))
        unchanged(self, are_parting, F, W, [["a", "b"], ["c", "d"]])
        self.assertTrue(all(alike(of, of) for of in small_boards(60, 6, 223) if not crosses_by_hand(of)))
        raised(self, HasCross, alike, N, N)


if __name__ == "__main__":
    unittest.main()

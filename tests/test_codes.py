"""Points 68, 70, 73 and 74: the rim's code, and a board for each."""

import unittest
from itertools import combinations, permutations
from random import Random

from byhand import (alternates, crosses_by_hand, flat_board, grid, hung_ways, joined_by_hand, pinned_boards,
                    random_board)
from mustcross.boards import Board
from mustcross.bothways import has_cross
from mustcross.changed import with_tie
from mustcross.codes import all_codes, board_for, code, count_by, count_codes, is_code
from mustcross.crosses import cross
from mustcross.errors import BadBoard, BadCode, BadNumber, BadRim, BadStretch, NoPin
from mustcross.folding import folded
from mustcross.nests import greatest_piece
from mustcross.rimcounts import count, counts
from support import (EMPTY, F, N, W, Z, board, listed, no_boards, no_numbers, no_places, odd_things, raises_thing,
                     raises_with, small_boards, told_new, tupled, unchanged)

BOARDS = [F, N, W, Z, EMPTY, board("p", "", "p"), board("p q", "", "p q"), board("p q", "p q", "q p"),
          *small_boards(120, 7, 201), *pinned_boards(60, 7, 202)]
RIM = list("ehbadgcif")


def stretches(rim):
    """All stretches but that of all pins."""
    return [(rim + rim)[at:at + many] for at in range(len(rim)) for many in range(1, len(rim))]


def goes_on_by_hand(rings):
    """A dict from each pin to the one to which it goes on."""
    onward = {}
    for ring in rings:
        for one, other in zip(ring, [*ring[1:], ring[0]]):
            onward[one] = other
    return onward


def out_by_hand(rings, row):
    """How many pins of a stretch go on to a pin outside it."""
    onward = goes_on_by_hand(rings)
    return sum(onward[pin] not in row for pin in row)


def told_by_hand(rings):
    """Rings as a code tells them."""
    found = []
    for ring in rings:
        turned = [[*ring[at:], *ring[:at]] for at in range(len(ring))]
        turned += [row[:1] + row[:0:-1] for row in turned]
        found.append(min(turned))
    return sorted(found)


def some_code(rim, chance):
    """A code of a rim, told."""
    left = chance.sample(rim, len(rim))
    rings = []
    while left:
        many = chance.randint(1, len(left))
        rings.append(left[:many])
        left = left[many:]
    return told_by_hand(rings)


class CodeTest(unittest.TestCase):
    def test_examples(self):
        self.assertEqual(code(W), [["a", "b", "c", "d"]])
        self.assertEqual(code(F), [["a", "b", "d", "c"]])
        self.assertEqual(code(N), [["a", "c"], ["b", "d"]])
        ring = board("a b c d", "a b, b c, c d, a d", "a b c d")
        self.assertEqual(code(ring), [["a", "c"], ["b", "d"]])

    def test_pins_go_on_as_stretches_count(self):
        for of in [*BOARDS, grid(4, 4), grid(5, 5, [(2, 2)]), random_board(1, 20, 30, 9), flat_board(1, 9, 9, 80)]:
            rings = code(of)
            self.assertEqual(rings, told_by_hand(rings))
            self.assertIs(is_code(of.rim(), rings), True)
            for row in stretches(of.rim()):
                self.assertEqual(out_by_hand(rings, row), count(of, row[0], row[-1]))
                self.assertEqual(count_by(of.rim(), rings, row[0], row[-1]), count(of, row[0], row[-1]))

    def test_it_is_one_alone(self):
        for of in BOARDS:
            if len(of.rim()) < 6:
                rows = stretches(of.rim())
                due = [count(of, row[0], row[-1]) for row in rows]
                fit = [rings for rings in all_codes(of.rim()) if [out_by_hand(rings, row) for row in rows] == due]
                self.assertEqual(fit, [code(of)])

    def test_rims_of_no_to_nine_pins(self):
        self.assertEqual(code(Z), [])
        self.assertEqual(code(board("p", "", "p")), [["p"]])
        self.assertEqual(code(board("p q", "", "q p")), [["p"], ["q"]])
        self.assertEqual(code(board("p q", "p q", "q p")), [["p", "q"]])
        for many in range(1, 10):
            rim = RIM[:many]
            bare = Board(rim, [], rim)
            self.assertEqual(code(bare), [[pin] for pin in sorted(rim)])
            star = Board([*rim, "z"], [(pin, "z") for pin in rim], rim)
            self.assertEqual(code(star), told_by_hand([rim]))
            whole = Board(rim, list(combinations(rim, 2)), rim)
            half = many // 2
            if many % 2:
                due = [[rim[at * half % many] for at in range(many)]] if half else [rim]
            else:
                due = [[rim[at], rim[at + half]] for at in range(half)]
            self.assertEqual(code(whole), told_by_hand(due))

    def test_folding_leaves_it(self):
        seen = 0
        for of in [*BOARDS, flat_board(2, 8, 8, 80, 2), hung_ways(1, 4, 5, 2)]:
            for place in of.places():
                piece = None if place in of.rim() else greatest_piece(of, place)
                if piece is not None:
                    self.assertEqual(code(folded(of, piece)), code(of))
                    seen += 1
        self.assertGreater(seen, 100)

    def test_rims_begun_elsewhere_or_the_other_way_round(self):
        for of in [*BOARDS, flat_board(3, 8, 8, 80)]:
            rim = of.rim()
            for at in range(len(rim)):
                for row in [rim[at:] + rim[:at], (rim[at:] + rim[:at])[::-1]]:
                    self.assertEqual(code(Board(of.places(), of.ties(), row)), code(of))

    def test_a_tie_more(self):
        for of in [*BOARDS[:90], flat_board(4, 6, 6, 80)]:
            for one, other in combinations(of.places(), 2):
                if other not in of.ties_of(one):
                    more = counts(with_tie(of, one, other))
                    steps = [to - at for row, now in zip(counts(of), more) for at, to in zip(row, now)]
                    self.assertLessEqual(set(steps), {0, 1})

    def test_told_pairs_by_the_code(self):
        chance = Random(5)
        seen = [0, 0]
        for of in BOARDS:
            if not crosses_by_hand(of):
                rim, rings = of.rim(), code(of)
                for _ in range(4):
                    row = chance.sample(rim, 2 * chance.randint(0, len(rim) // 2))
                    pairs = list(zip(row[::2], row[1::2]))
                    due = not any(alternates(rim, one, two) for one, two in combinations(pairs, 2))
                    for inside in stretches(rim):
                        out = sum((one in inside) != (other in inside) for one, other in pairs)
                        due = due and out <= out_by_hand(rings, inside)
                    self.assertEqual(joined_by_hand(of, pairs), due)
                    seen[due] += 1
        self.assertGreater(min(seen), 100)

    def test_great_boards(self):
        for of in [flat_board(5, 24, 16, 80), random_board(1, 40, 100, 16), random_board(2, 40, 780, 16), grid(6, 6)]:
            rings = code(of)
            rows = stretches(of.rim())
            self.assertTrue(all(out_by_hand(rings, row) == count(of, row[0], row[-1]) for row in rows[::17]))

    def test_bad_board_and_told_new(self):
        for thing in no_boards():
            raises_thing(self, BadBoard, thing, code, thing)
        told_new(self, lambda: code(F))


class IsCodeTest(unittest.TestCase):
    def test_all_codes_and_no_other_tellings(self):
        for many in range(6):
            rim = RIM[:many]
            rows = all_codes(rim)
            for rings in rows:
                self.assertIs(is_code(rim, rings), True)
                self.assertIs(is_code(tuple(rim), tupled(rings)), True)
                self.assertIs(is_code(rim[::-1], rings), True)
                for row in permutations(rings):
                    self.assertIs(is_code(rim, row), list(row) == rings)
                for at, ring in enumerate(rings):
                    for turned in permutations(ring):
                        told = [*rings[:at], list(turned), *rings[at + 1:]]
                        self.assertIs(is_code(rim, told), told in rows)

    def test_any_object(self):
        rim = list("abcde")
        self.assertIs(is_code(rim, [["a", "b", "d"], ("c",), ["e"]]), True)
        self.assertIs(is_code([], []), True)
        self.assertIs(is_code([], ()), True)
        for thing in [*odd_things(), "abcde", ["abcde"], ["a", "b", "c", "d", "e"], [list("abcd")], [list("abcde"), []],
                      [[], list("abcde")], [list("abcdef")], [list("abcd"), ["f"]], [list("abcd"), ["a"]],
                      [list("abcde"), ["e"]], [list("abcd"), [1]], [list("abcd"), [None]], [list("abcd"), [["e"]]],
                      [list("abcd"), "e"], [list("abcd"), None], {"a": "b"}, [{}], [list("abcd"), ["e", "e"]]]:
            self.assertIs(is_code(rim, thing), False, thing)
        for thing in [[[]], None, [["a"]], ["a"], {}]:
            self.assertIs(is_code([], thing), False)

    def test_bad_rims(self):
        calls = [is_code, lambda rim, thing: count_by(rim, thing, None, None), board_for,
                 lambda rim, thing: all_codes(rim)]
        for call in calls:
            for rim, index in [(None, 0), ("ab", 0), ({}, 0), (["a", "a"], 1), (["a", "B"], 1), (["rim"], 0),
                               (["a", None, "a"], 1), (["a", "b", "ninesigns"], 2), ([["a"]], 0), (F, 0),
                               (["a", "b", True], 2)]:
                raises_with(self, BadRim, {"index": index}, call, rim, None)


class CountByTest(unittest.TestCase):
    def test_round_the_rims_end_and_of_all_pins_but_one(self):
        rim = list("cabde")
        rings = [["a", "b", "c"], ["d", "e"]]
        self.assertEqual(count_by(rim, rings, "e", "c"), 2)
        self.assertEqual(count_by(rim, rings, "e", "b"), 1)
        self.assertEqual(count_by(rim, rings, "d", "e"), 0)
        self.assertEqual(count_by(tuple(rim), tupled(rings), "a", "a"), 1)
        self.assertEqual(count_by(["p", "q"], [["p"], ["q"]], "q", "q"), 0)

    def test_order_of_errors(self):
        rim = list("abcd")
        rings = [["a", "b", "d"], ["c"]]
        for call in [lambda thing: count_by(rim, thing, None, None), lambda thing: board_for(rim, thing)]:
            for thing in [*odd_things(), rings[::-1], [["a", "d", "b"], ["c"]], [["b", "d", "a"], ["c"]], rings[:1]]:
                raises_thing(self, BadCode, thing, call, thing)
        for thing in [*no_places(), "x", "e"]:
            raises_thing(self, NoPin, thing, count_by, rim, rings, thing, None)
            raises_thing(self, NoPin, thing, count_by, rim, rings, "a", thing)
        for first, last in ["ad", "ba", "cb", "dc"]:
            raises_with(self, BadStretch, {"first": first, "last": last}, count_by, rim, rings, first, last)
        raises_with(self, BadStretch, {"first": "p", "last": "p"}, count_by, ["p"], [["p"]], "p", "p")
        raises_thing(self, NoPin, "p", count_by, [], [], "p", "p")

    def test_unchanged(self):
        rim, rings = list("dbac"), [["a", "b", "d"], ["c"]]
        unchanged(self, count_by, rim, rings, "d", "b")
        unchanged(self, board_for, rim, rings)
        unchanged(self, is_code, rim, rings)
        unchanged(self, all_codes, rim)


class BoardForTest(unittest.TestCase):
    def look(self, rim, rings):
        of = board_for(rim, rings)
        self.assertIsInstance(of, Board)
        self.assertEqual(of.rim(), list(rim))
        self.assertEqual(code(of), listed(rings))
        self.assertIs(has_cross(of), False)
        self.assertEqual(board_for(tupled(rim), tupled(rings)), of)

    def test_all_codes(self):
        for many in range(6):
            for rings in all_codes(RIM[:many]):
                self.look(RIM[:many], rings)
        for rings in all_codes(RIM[:6])[::9]:
            self.look(RIM[:6], rings)

    def test_counts_by_all_ways(self):
        for rings in all_codes(list("bdac")):
            self.assertFalse(crosses_by_hand(board_for(list("bdac"), rings)))

    def test_rims_with_names_of_all_kinds(self):
        self.look(["z0", "z2", "a", "z1", "longname", "z4"], [["a", "z1"], ["longname", "z2"], ["z0", "z4"]])

    def test_sixteen_pins(self):
        chance = Random(7)
        rim = [f"p{at}" for at in range(16)]
        for rings in [told_by_hand([rim]), told_by_hand([[rim[at], rim[at + 8]] for at in range(8)]),
                      [[pin] for pin in sorted(rim)], *[some_code(rim, chance) for _ in range(6)]]:
            self.look(rim, rings)


class AllCodesTest(unittest.TestCase):
    def test_how_many(self):
        due = [1, 1, 2, 5, 17, 73, 388]
        self.assertEqual([count_codes(many) for many in range(7)], due)
        for many in range(8):
            rows = all_codes(RIM[:many])
            self.assertEqual(len(rows), count_codes(many))
            self.assertEqual(rows, sorted(rows))
            self.assertEqual(len({tupled(rings) for rings in rows}), len(rows))
            self.assertTrue(all(rings == told_by_hand(rings) for rings in rows[::7]))

    def test_by_all_ways_to_go_on(self):
        for many in range(7):
            pins = list("abcdef"[:many])
            found = set()
            for row in permutations(pins):
                onward, rings = dict(zip(pins, row)), []
                for pin in pins:
                    if not any(pin in ring for ring in rings):
                        rings.append([pin])
                        while onward[rings[-1][-1]] != pin:
                            rings[-1].append(onward[rings[-1][-1]])
                found.add(tupled(told_by_hand(rings)))
            self.assertEqual(all_codes(pins), listed(sorted(found)))

    def test_sixteen_pins(self):
        due = [1, 1, 2]
        for many in range(3, 17):
            due.append(many * due[-1] - (many - 1) * (many - 2) // 2 * due[-3])
        self.assertEqual([count_codes(many) for many in range(17)], due)

    def test_bad_numbers_and_told_new(self):
        for thing in no_numbers():
            raises_thing(self, BadNumber, thing, count_codes, thing)
        told_new(self, lambda: all_codes(list("dbca")))
        self.assertEqual(all_codes([]), [[]])
        self.assertIsNone(cross(board_for([], [])))


if __name__ == "__main__":
    unittest.main()

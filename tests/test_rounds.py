"""Points 53, 54, 55 and 59: rounds through told places, and what bars them."""

import unittest
from itertools import combinations, permutations, product
from random import Random

from byhand import all_rounds, grid, random_board
from mustcross.boards import Board
from mustcross.errors import BadBoard, BadTold
from mustcross.rounds import is_round, is_round_bar, round_bar, round_through
from support import (EMPTY, F, N, W, Z, all_subsets, all_ways, board, listed, no_boards, no_places, odd_things,
                     raises_thing, raises_with, small_boards, told_new, tupled, unchanged)

K23 = board("a b c x y", "a x, a y, b x, b y, c x, c y")
HUNG = board("a b c d x y", "a x, a y, b x, b y, c x, c y, a d")
ROWS = board("p1 p2 p3 q1 q2 q3 a b c", "p1 a, a q1, p2 b, b q2, p3 c, c q3, p1 p2, p2 p3, p1 p3, q1 q2, q2 q3, q1 q3")
ROWS_BAR = ("lots", [["p1", "p2", "p3"], ["q1", "q2", "q3"], ["a"], ["b"], ["c"]])
K23_BAR = ("lots", [["x"], ["y"], ["a"], ["b"], ["c"]])
BOARDS = [F, N, W, Z, K23, HUNG, *small_boards(250, 7, 151)]


def with_ties(of, *ties):
    return Board(of.places(), [*of.ties(), *ties], of.rim())


def planted(chance):
    """A board with five lots by which no round has the first places of three of them, and these places."""
    names = [[f"{lot}{at}" for at in range(chance.randint(1, 3 if lot in "abc" else 4))] for lot in "pqabc"]
    ties = set()
    for row in names:
        ties |= {tie for tie in combinations(row, 2) if chance.randrange(10) < 7}
    feet = [(chance.choice(names[0]), chance.choice(names[1])) for _ in range(3)]
    for row, pair in zip(names[2:], feet):
        ties |= {tie for tie in product(row, pair) if chance.randrange(10) < 8}
    between = list(product(*names[:2])) if 1 in map(len, names[:2]) else feet
    ties |= {tie for tie in between if chance.randrange(2)}
    return Board([name for row in names for name in row], sorted({tuple(sorted(tie)) for tie in ties}), []), \
        [row[0] for row in names[2:]]


def is_bar_by_hand(of, told, bar):
    """Whether a bar of one of the three forms is right, by looking."""
    ties = of.ties() + [tie[::-1] for tie in of.ties()]
    if bar[0] == "lots":
        p, q, *lots = map(set, bar[1])
        everyone = [place for row in bar[1] for place in row]
        feet = [[{other for one, other in ties if one in lot and other in half} for half in (p, q)] for lot in lots]
        apart = not any(one in lots[at] and other in lots[to] for one, other in ties
                        for at, to in permutations(range(3), 2))
        between = [[{one}, {other}] for one, other in ties if one in p and other in q]
        return (sorted(everyone) == of.places() and bool(p and q) and all(map(lambda one, lot: one in lot, told, lots))
                and len(told) == 3 and apart and all(len(half) < 2 for row in feet for half in row)
                and (len(p) == 1 or len(q) == 1 or all(row in feet for row in between)))
    lot = set(bar[1])
    out = [other for one, other in ties if one in lot and other not in lot]
    if bar[0] == "place":
        return (bar[2] not in lot and bool(lot & set(told)) and bool(set(told) - lot - {bar[2]})
                and set(out) <= {bar[2]})
    return bar[0] == "tie" and bool(lot & set(told)) and bool(set(told) - lot) and len(out) < 2


def is_told_bar(of, told, bar):
    """Whether a bar is right and told as it should be."""
    lists = bar[1] if bar[0] == "lots" else [bar[1]]
    return (isinstance(bar, tuple) and isinstance(bar[1], list)
            and all(isinstance(row, list) and row == sorted(row) and set(row) <= set(of.places()) for row in lists)
            and is_bar_by_hand(of, told, bar))


class IsRoundTest(unittest.TestCase):
    def test_all_ways(self):
        for of in BOARDS[:100]:
            for way in all_ways(of, of.places(), of.places()):
                self.assertIs(is_round(of, way), len(way) > 2 and way[0] in of.ties_of(way[-1]))

    def test_from_whatever_place_on_either_way_about(self):
        ring = ["a", "x", "b", "y"]
        for at in range(4):
            for row in [ring[at:] + ring[:at], (ring[at:] + ring[:at])[::-1]]:
                self.assertIs(is_round(K23, row), True)
                self.assertIs(is_round(K23, tuple(row)), True)

    def test_any_object(self):
        for thing in [*odd_things(), [], ["a"], ["a", "x"], ["a", "x", "b"], ["a", "x", "b", "y", "a"], "axby",
                      ["a", "x", "b", "zz"], ["a", "x", "b", 1], ["a", "x", "b", ["y"]], {"a": 1, "x": 2, "b": 3}, K23,
                      ["a", "x", "b", "x"], ["a", "b", "x", "y"]]:
            self.assertIs(is_round(K23, thing), False)
        for thing in no_boards():
            raises_thing(self, BadBoard, thing, is_round, thing, None)


class RoundTest(unittest.TestCase):
    def look(self, of, told):
        """Just one of both, each right; whether there is a round."""
        found, bar = round_through(of, told), round_bar(of, told)
        self.assertNotEqual(found is None, bar is None, (of.places(), of.ties(), told))
        if found is not None:
            self.assertTrue(isinstance(found, list) and len(found) > 2 and len(set(found)) == len(found))
            self.assertTrue(all(other in of.ties_of(one) for one, other in zip(found, found[1:] + found[:1])))
            self.assertLessEqual(set(told), set(found))
            return True
        self.assertTrue(is_told_bar(of, told, bar), (of.places(), of.ties(), told, bar))
        self.assertIs(is_round_bar(of, told, bar), True)
        return False

    def test_examples(self):
        self.assertTrue(self.look(K23, ["a", "b"]))
        self.assertFalse(self.look(K23, ["a", "b", "c"]))
        self.assertEqual(round_bar(K23, ["a", "b", "c"]), K23_BAR)
        self.assertFalse(self.look(with_ties(K23, ("x", "y")), ["a", "b", "c"]))
        self.assertFalse(self.look(HUNG, ["b", "d"]))
        self.assertFalse(self.look(ROWS, ["a", "b", "c"]))
        self.assertFalse(self.look(with_ties(ROWS, ("p1", "q1")), ["a", "b", "c"]))
        self.assertTrue(self.look(with_ties(ROWS, ("p1", "q2")), ["a", "b", "c"]))

    def test_by_all_rounds(self):
        seen = [0, 0]
        for of in BOARDS:
            rounds = all_rounds(of)
            for told in [*combinations(of.places(), 2), *combinations(of.places(), 3)]:
                there = self.look(of, list(told))
                self.assertEqual(there, any(set(told) <= row for row in rounds))
                seen[there] += 1
        self.assertGreater(min(seen), 1000)

    def test_boards_with_five_lots(self):
        chance = Random(2)
        seen = 0
        for _ in range(250):
            of, told = planted(chance)
            self.assertFalse(self.look(of, told))
            seen += round_bar(of, told)[0] == "lots"
            if len(of.ties()) < 23:
                pair = tuple(chance.sample(of.places(), 2))
                more = of if pair in of.ties() or pair[::-1] in of.ties() else with_ties(of, pair)
                rounds = all_rounds(more)
                for row in [told, *[chance.sample(of.places(), 3) for _ in range(3)]]:
                    self.assertEqual(self.look(more, row), any(set(row) <= ring for ring in rounds))
        self.assertGreater(seen, 60)

    def test_whatever_order(self):
        for of in [K23, HUNG, ROWS, with_ties(ROWS, ("p1", "q2")), with_ties(ROWS, ("p3", "q3"))]:
            for told in permutations("abc"):
                self.assertEqual(self.look(of, told), self.look(of, list("abc")))

    def test_trees_and_parts(self):
        tree = board("a b c d e", "a b, b c, c d, b e")
        parts = board("a b c d e f", "a b, b c, a c, d e, e f, d f")
        one_place = board("a b c d e", "a b, b c, a c, c d, d e, c e")
        one_tie = board("a b c d e f", "a b, b c, a c, d e, e f, d f, c d")
        for of in [tree, parts, one_place, one_tie]:
            for told in combinations(of.places(), 3):
                self.assertEqual(self.look(of, told), any(set(told) <= ring for ring in all_rounds(of)))
        self.assertTrue(self.look(parts, ["a", "b"]))
        self.assertFalse(self.look(parts, ["a", "d"]))
        self.assertIn(round_bar(one_tie, ["a", "e"])[0], ("place", "tie"))
        self.assertFalse(self.look(board("a b", "a b"), ["a", "b"]))
        self.assertFalse(self.look(board("a b", ""), ["b", "a"]))

    def test_rings_with_chords(self):
        chance = Random(3)
        places = [f"r{at:02}" for at in range(25)]
        ring = list(zip(places, places[1:] + places[:1]))
        for chords in [0, 1, 5, 35]:
            others = [tie for tie in combinations(places, 2) if tie not in ring and tie[::-1] not in ring]
            of = Board(places, ring + chance.sample(others, chords), [])
            for many in (2, 3):
                for _ in range(8):
                    self.assertTrue(self.look(of, chance.sample(places, many)))

    def test_great_boards(self):
        chance = Random(4)
        for of in [grid(5, 5), random_board(1, 25, 60, 0), random_board(2, 25, 30, 4), random_board(3, 25, 40, 9)]:
            for _ in range(25):
                self.look(of, chance.sample(of.places(), chance.choice([2, 3])))
        rows = [f"{side}{at}" for side in "pqs" for at in range(8)]
        ties = [(f"{side}{at}", f"{side}{(at + 1) % 8}") for side in "pq" for at in range(8)]
        ties += [(f"{side}{at}", f"s{at}") for side in "pq" for at in (0, 3, 5)]
        of = Board(rows, ties, [])
        self.assertFalse(self.look(of, ["s0", "s3", "s5"]))
        self.assertFalse(self.look(with_ties(of, ("p0", "q0")), ["s5", "s3", "s0"]))
        self.assertTrue(self.look(with_ties(of, ("p1", "q7")), ["s0", "s3", "s5"]))

    def test_bad_told(self):
        for call in [round_through, round_bar, lambda of, told: is_round_bar(of, told, None)]:
            for thing in no_boards():
                raises_thing(self, BadBoard, thing, call, thing, None)
            for told, index in [(None, 0), ("ab", 0), ({}, 0), ([], 0), (["a"], 1), (["a", "a"], 1), (["a", "zz"], 1),
                                (["zz"], 0), (["a", "b", "c", "x"], 3), (["a", "b", "c", "x", "y"], 3),
                                (["a", "b", "c", "a"], 3), (["a", "b", "c", "x", "zz"], 4), (["a", 1, "zz"], 1),
                                (("b",), 1)]:
                raises_with(self, BadTold, {"index": index}, call, K23, told)
            for thing in no_places():
                raises_with(self, BadTold, {"index": 2}, call, K23, ["a", "b", thing])

    def test_told_new_and_unchanged(self):
        for call in [round_through, round_bar]:
            for of, told in [(K23, ["b", "a"]), (K23, ["a", "b", "c"]), (HUNG, ["d", "b"]), (ROWS, ["c", "a", "b"])]:
                told_new(self, lambda: call(of, told))
                unchanged(self, call, of, told)
                again = Board(of.places()[::-1], of.ties()[::-1], [])
                self.assertEqual(call(again, tuple(told)), call(of, told))


class IsRoundBarTest(unittest.TestCase):
    def test_all_places_and_ties(self):
        for of in [K23, HUNG, Z, *small_boards(25, 5, 152)]:
            for told in [*combinations(of.places(), 2), *combinations(of.places(), 3)]:
                for lot in all_subsets(of.places()):
                    bar = ("tie", lot[::-1])
                    self.assertIs(is_round_bar(of, told, bar), is_bar_by_hand(of, told, bar))
                    for place in of.places():
                        bar = ["place", tuple(lot), place]
                        self.assertIs(is_round_bar(of, told, bar), is_bar_by_hand(of, told, bar))

    def test_all_lots(self):
        for of in [K23, with_ties(K23, ("x", "y")), board("a b c d", "a b, b c, c d, a d"), *small_boards(12, 6, 153)]:
            for told in list(permutations(of.places(), 3))[:3]:
                for row in product(range(5), repeat=len(of.places())):
                    lots = [[place for place, at in zip(of.places(), row) if at == lot] for lot in range(5)]
                    if len(row) < 6 or row[0] in (0, 2) and row[1] in (1, 3):
                        due = is_bar_by_hand(of, told, ("lots", lots))
                        self.assertIs(is_round_bar(of, told, ("lots", lots)), due)

    def test_one_thing_otherwise(self):
        told = ["a", "b", "c"]
        for of in [ROWS, with_ties(ROWS, ("p1", "q1"))]:
            for thing in [ROWS_BAR, listed(ROWS_BAR), tupled(ROWS_BAR), ("lots", [row[::-1] for row in ROWS_BAR[1]])]:
                self.assertIs(is_round_bar(of, told, thing), True)
            for order in permutations(told):
                self.assertIs(is_round_bar(of, order, ROWS_BAR), order == ("a", "b", "c"))
            self.assertIs(is_round_bar(of, ["a", "b"], ROWS_BAR), False)
        self.assertIs(is_round_bar(with_ties(ROWS, ("p1", "q2")), told, ROWS_BAR), False)
        self.assertIs(is_round_bar(with_ties(ROWS, ("a", "b")), told, ROWS_BAR), False)
        self.assertIs(is_round_bar(with_ties(ROWS, ("a", "p2")), told, ROWS_BAR), False)
        p, q, a, b, c = ROWS_BAR[1]
        for lots in [[p, q, a, b], [p, q, a, b, c, []], [q, p, a, b, c][1:], [p, [], a, b, c + q], [[], p + q, a, b, c],
                     [p, q[:2], a, b, c], [p, q + ["p1"], a, b, c], [p, q, a, b, ["zz"]], [p, q, a, b, "c"],
                     [p, q, a, b, None], [p, q, a, b, [1]], [p, q, a, b, [c]], [p, q, a, c, b],
                     [p, q, ["a", "a"], b, c],
                     [p[:2], q, a, b, c + ["p3"]], [p[:2], q + ["p3"], a, b, c], None, "pqabc", {}, [p, q, a, b, {}]]:
            self.assertIs(is_round_bar(ROWS, told, ("lots", lots)), False, lots)
        self.assertIs(is_round_bar(ROWS, told, ("lots", [q, p, a, b, c])), True)

    def test_lots_that_are_one_place_or_none(self):
        told = ["a", "b", "c"]
        star = board("a b c x", "a x, b x, c x")
        for lots in [[[], ["x"]], [["x"], []]]:
            self.assertIs(is_round_bar(star, told, ("lots", [*lots, ["a"], ["b"], ["c"]])), False)
        self.assertIs(is_round_bar(board("a b c x y", "a x, b x, c x"), told,
                                   ("lots", [["x"], ["y"], ["a"], ["b"], ["c"]])), True)
        wide = board("a b c p q1 q2 q3 q4", "a p, b p, c p, a q1, b q2, c q3, q1 q2, q2 q3, p q1, p q2, p q4, q4 q1")
        one, many = ["p"], ["q1", "q2", "q3", "q4"]
        for lots in [[one, many], [many, one]]:
            self.assertIs(is_round_bar(wide, told, ("lots", [*lots, ["a"], ["b"], ["c"]])), True)
        more = board("a b c p q1 q2 q3 z", "a p, b p, c p, a q1, b q2, c q3")
        three = many[:3]
        self.assertIs(is_round_bar(more, told, ("lots", [one, three, ["a"], ["b"], ["c"]])), False)
        self.assertIs(is_round_bar(more, told, ("lots", [one, three, ["a", "z"], ["b"], ["c"]])), True)

    def test_places_without_ties(self):
        of = board("a b c", "b c")
        for thing, due in [(("place", ["a"], "c"), True), (("place", ["a"], "b"), False),
                           (("place", ["a"], "zz"), False), (("place", ["a"], None), False), (("place", ["a"], ["c"]), False), (("tie", ["a"]), True),
                           (("place", ["b"], "c"), True), (("place", ["b", "c"], "zz"), False)]:
            self.assertIs(is_round_bar(of, ["a", "b"], thing), due, thing)

    def test_any_object(self):
        told = ["b", "d"]
        self.assertIs(is_round_bar(HUNG, told, ("tie", ["d"])), True)
        self.assertIs(is_round_bar(HUNG, told, ["tie", ("d",)]), True)
        self.assertIs(is_round_bar(HUNG, told, ("place", ["d"], "a")), True)
        self.assertIs(is_round_bar(HUNG, told, ("place", ["x", "c", "b", "y"], "a")), True)
        for thing in [*odd_things(), ("tie",), ("tie", ["d"], "a"), ("place", ["d"]), ("place", ["d"], "a", "b"),
                      ("tie", []), ("tie", ["d", "d"]), ("tie", ["d", "zz"]), ("tie", "d"), ("tie", None), ("tie", [1]),
                      ("tie", [["d"]]), ("tie", ["b", "d"]), ("tie", ["a"]), ("tie", {"d": 1}), ("place", ["d"], "b"),
                      ("place", ["d"], "d"), ("place", ["d"], None), ("place", ["d"], "zz"), ("place", ["d"], ["a"]),
                      ("place", "d", "a"), ("place", ["d", "a"], "a"), ("place", ["c"], "a"), ("place", [], "a"),
                      ("ties", ["d"]), (["tie"], ["d"]), {0: "tie", 1: ["d"]}, HUNG, ("tie", HUNG), (HUNG, ["d"])]:
            self.assertIs(is_round_bar(HUNG, told, thing), False, thing)
        self.assertIs(is_round_bar(HUNG, ["a", "d"], ("place", ["d"], "a")), False)
        self.assertIs(is_round_bar(HUNG, ["a", "d"], ("tie", ["d"])), True)
        unchanged(self, is_round_bar, HUNG, ["b", "d"], ["tie", ["d"]])


if __name__ == "__main__":
    unittest.main()

"""Points 47 to 52: any number of told pairs of pins where there is no cross, and what bars them."""

import unittest
from itertools import combinations, permutations, product
from random import Random

from byhand import alternates, flat_board, grid, is_cross_of, is_way, joined_by_hand
from mustcross.apart import ways_apart
from mustcross.boards import Board
from mustcross.crosses import cross
from mustcross.errors import BadBoard, BadPairs, HasCross
from mustcross.joined import is_join_paper, is_joined, join_paper, joined
from mustcross.partings import is_parting
from mustcross.rimcounts import count
from mustcross.twos import two_joined
from support import (EMPTY, F, N, W, Z, board, listed, no_boards, no_places, odd_things, raised, raises_thing,
                     raises_with, small_boards, told_new, tupled, unchanged)

CALM = [of for of in [F, W, Z, EMPTY, *small_boards(700, 8, 131)] if cross(of) is None]
THREE = board("a b c d e f x y", "a x, b x, e x, f x, b y, c y, d y, e y", "a b c d e f")
CALLS = [joined, join_paper, lambda of, pairs: is_joined(of, pairs, None),
         lambda of, pairs: is_join_paper(of, pairs, None)]


def some_pairs(of, chance, many=None):
    """Some pairs of pins, no pin twice."""
    rim = of.rim()
    many = chance.randint(0, len(rim) // 2) if many is None else many
    row = chance.sample(rim, 2 * many)
    return list(zip(row[::2], row[1::2]))


def pairs_without_alternating(rim, many, chance):
    """So many pairs of pins of which no two alternate."""
    row = sorted(chance.sample(range(len(rim)), 2 * many))

    def paired(row):
        if not row:
            return []
        at = chance.randrange(1, len(row), 2)
        return [(row[0], row[at])] + paired(row[1:at]) + paired(row[at + 1:])

    pairs = [tuple(chance.sample([rim[one], rim[other]], 2)) for one, other in paired(row)]
    chance.shuffle(pairs)
    return pairs


def stretch(rim, first, last):
    """The pins of a stretch."""
    row = [first]
    while row[-1] != last:
        row.append(rim[(rim.index(row[-1]) + 1) % len(rim)])
    return row


def is_joined_by_hand(of, pairs, ways):
    """Whether ways join the pairs, by looking."""
    places = [place for way in ways for place in way]
    return (all(is_way(of, way) for way in ways) and len(set(places)) == len(places)
            and [(way[0], way[-1]) for way in ways] == [tuple(pair) for pair in pairs])


def is_paper_by_hand(of, pairs, paper):
    """Whether a paper bars the pairs, by looking."""
    rim = of.rim()
    if paper[0] == "across":
        _, index, other = paper
        return index < other and alternates(rim, pairs[index], pairs[other])
    _, first, last, lot = paper
    inside = stretch(rim, first, last)
    outside = [pin for pin in rim if pin not in inside]
    out = [pair for pair in pairs if len(set(pair) & set(inside)) == 1]
    return (paper[0] == "parts" and len(outside) > 0 and len(set(lot)) == len(lot) < len(out)
            and is_parting(of, inside, outside, lot))


class JoinedTest(unittest.TestCase):
    def look(self, of, pairs):
        """Just one of both, each right; whether there are ways."""
        ways, paper = joined(of, pairs), join_paper(of, pairs)
        self.assertNotEqual(ways is None, paper is None, (of.places(), of.ties(), of.rim(), pairs))
        if ways is not None:
            self.assertTrue(isinstance(ways, list) and all(isinstance(way, list) for way in ways))
            self.assertTrue(is_joined_by_hand(of, pairs, ways))
            self.assertIs(is_joined(of, pairs, ways), True)
            self.assertIs(is_join_paper(of, pairs, ways), False)
            return True
        self.assertIsInstance(paper, tuple)
        self.assertTrue(is_paper_by_hand(of, pairs, paper))
        self.assertIs(is_join_paper(of, pairs, paper), True)
        self.assertIs(is_joined(of, pairs, paper), False)
        across = [(at, to) for at, to in combinations(range(len(pairs)), 2)
                  if alternates(of.rim(), pairs[at], pairs[to])]
        if across:
            self.assertEqual(paper, ("across", *across[0]))
        else:
            self.assertTrue(paper[0] == "parts" and isinstance(paper[3], list) and paper[3] == sorted(paper[3]))
        return False

    def test_examples(self):
        self.assertEqual(joined(F, [("a", "b"), ("c", "d")]), [["a", "u", "b"], ["c", "x", "d"]])
        self.assertIsNone(joined(F, [("a", "d"), ("b", "c")]))
        self.assertIs(is_join_paper(F, [("a", "d"), ("b", "c")], ("parts", "a", "b", ["x"])), True)
        self.assertEqual(join_paper(F, [("a", "c"), ("b", "d")]), ("across", 0, 1))

    def test_by_all_ways(self):
        chance = Random(1)
        seen = [0, 0]
        for of in CALM:
            for _ in range(3):
                pairs = some_pairs(of, chance)
                there = self.look(of, pairs)
                self.assertEqual(there, joined_by_hand(of, pairs))
                seen[there] += bool(pairs)
        self.assertGreater(min(seen), 150)

    def test_no_pairs_and_one(self):
        for of in CALM:
            self.assertEqual(joined(of, []), [])
            self.assertIsNone(join_paper(of, ()))
            for pair in permutations(of.rim()[:4], 2):
                self.assertEqual(self.look(of, [pair]), bool(ways_apart(of, pair[:1], pair[1:])))

    def test_in_whatever_order_and_either_way_about(self):
        chance = Random(2)
        for seed in range(6):
            of = flat_board(seed, 18, 10, 75)
            pairs = pairs_without_alternating(of.rim(), 3, chance)
            there = self.look(of, pairs)
            for row in permutations(pairs):
                turned = [list(pair)[::chance.choice([1, -1])] for pair in row]
                self.assertEqual(self.look(of, tuple(turned)), there)

    def test_great_flat_boards_with_pieces(self):
        chance = Random(3)
        seen = [0, 0]
        for seed in range(50):
            pins = chance.choice([8, 12, 16])
            of = flat_board(seed, 28 - pins, pins, chance.choice([60, 75, 90, 100]), chance.randint(0, 3))
            for _ in range(4):
                many = chance.randint(1, pins // 2)
                seen[self.look(of, pairs_without_alternating(of.rim(), many, chance))] += 1
            self.look(of, some_pairs(of, chance, pins // 2))
        self.assertGreater(min(seen), 40)

    def test_ways_through_pieces(self):
        inside = list(combinations(["k", "l", "m", "n"], 2))
        of = Board(list("abcklmn"), inside + [("a", "k"), ("b", "l"), ("c", "m"), ("c", "n")], list("abc"))
        for pair in permutations("abc", 2):
            self.assertTrue(self.look(of, [pair]))
        two = Board(list("abcdklmn"), inside + [("a", "k"), ("b", "l"), ("c", "m"), ("a", "d")], list("abcd"))
        self.assertTrue(self.look(two, [("b", "c"), ("d", "a")]))
        self.assertTrue(self.look(two, [("b", "d")]))
        self.assertFalse(self.look(two, [("a", "b"), ("c", "d")]))

    def test_known_boards(self):
        rows = grid(4, 4)
        edge = rows.rim()
        left, right = edge[:4], edge[6:10]
        self.assertEqual((left, right), (["p00", "p01", "p02", "p03"], ["p33", "p32", "p31", "p30"]))
        self.assertTrue(self.look(rows, list(zip(left, right[::-1]))[::-1]))
        self.assertFalse(self.look(rows, list(zip(left, right))))
        waist = board("a b c d e f g h x y z", "a x, b y, c z, d x, e y, f z, x y, y z", "a b c f e d")
        self.assertTrue(self.look(waist, [("a", "d"), ("b", "e"), ("c", "f")]))
        thin = board("a b c d e f x y", "a x, b x, b y, c y, d x, e x, e y, f y, x y", "a b c f e d")
        self.assertEqual(join_paper(thin, [("a", "d"), ("b", "e"), ("c", "f")])[0], "parts")
        self.assertFalse(self.look(thin, [("a", "d"), ("b", "e"), ("c", "f")]))

    def test_facts(self):
        three = [("a", "f"), ("b", "e"), ("c", "d")]
        for two in combinations(three, 2):
            self.assertTrue(self.look(THREE, list(two)))
        self.assertFalse(self.look(THREE, three))
        bare = board("a b c d", "a c, b d", "a b c d")
        self.assertEqual([count(bare, first, last) for first, last in ["aa", "ab", "bc"]], [1, 2, 2])
        self.assertIsNone(two_joined(bare, ("a", "b"), ("c", "d")))
        chance = Random(4)
        for of in CALM:
            pairs = some_pairs(of, chance)
            rim = of.rim()
            apart = not any(alternates(rim, one, two) for one, two in combinations(pairs, 2))
            for first, last in product(rim, rim):
                row = stretch(rim, first, last)
                if len(row) < len(rim):
                    out = [pair for pair in pairs if len(set(pair) & set(row)) == 1]
                    apart = apart and len(out) <= count(of, first, last)
            self.assertEqual(joined(of, pairs) is not None, apart)

    def test_has_cross(self):
        for call in CALLS:
            for of in [N, *[of for of in small_boards(200, 7, 132) if cross(of) is not None]]:
                ways = raised(self, HasCross, call, of, None).ways
                self.assertEqual(ways, cross(of))
                self.assertTrue(is_cross_of(of, ways))
            for thing in no_boards():
                raises_thing(self, BadBoard, thing, call, thing, None)

    def test_bad_pairs(self):
        for call in CALLS:
            for pairs, index in [(None, 0), ("ab", 0), ({}, 0), ([("a", "b"), None], 1), ([("a", "b"), ("c", "b")], 1),
                                 ([("a", "a")], 0), ([("a", "u")], 0), ([("a", "b"), ("c", "x")], 1), ([("a",)], 0),
                                 ([("a", "b", "c")], 0), ([("a", "b"), ("c", "d"), ("a", "c")], 2), (["ab"], 0),
                                 ([("a", "b"), ("b", "a")], 1), ([("c", "d"), ("a", 1), None], 1)]:
                raises_with(self, BadPairs, {"index": index}, call, F, pairs)
            for thing in odd_things():
                raises_with(self, BadPairs, {"index": 1}, call, F, [("a", "b"), thing, thing])
            for thing in no_places():
                raises_with(self, BadPairs, {"index": 0}, call, F, [("a", thing)])

    def test_told_new_and_unchanged(self):
        for pairs in [[["a", "b"], ["c", "d"]], [["a", "d"], ["b", "c"]], [["a", "c"], ["b", "d"]]]:
            for call in [joined, join_paper]:
                told_new(self, lambda: call(F, pairs))
                unchanged(self, call, F, pairs)
                self.assertEqual(call(F, tupled(pairs)), call(F, pairs))


class IsJoinedTest(unittest.TestCase):
    PAIRS = [("a", "b"), ("d", "c")]
    WAYS = [["a", "u", "b"], ["d", "x", "c"]]

    def test_lists_and_tuples(self):
        for ways in [self.WAYS, tupled(self.WAYS), [["a", "u", "b"], ("d", "x", "c")]]:
            self.assertIs(is_joined(F, self.PAIRS, ways), True)
        self.assertIs(is_joined(F, listed(self.PAIRS), self.WAYS), True)
        self.assertIs(is_joined(F, [], []), True)
        unchanged(self, is_joined, F, listed(self.PAIRS), self.WAYS)

    def test_any_object(self):
        one, two = self.WAYS
        for thing in [*odd_things(), [one], [one, two, ["u"]], [two, one], [one[::-1], two], [one, two[::-1]],
                      [["a", "x", "b"], two], [["a", "u", "v", "b"], two], [["a", "b"], two], [one, "dxc"], [one, None],
                      [one, ["d", "x"]], [one, ["d", "x", "zz"]], [one, ["d", "x", 1]], [one, []], {0: one, 1: two},
                      [one, ["d", "x", "a", "x", "c"]], [one, ["d", ["x"], "c"]], [one, F]]:
            self.assertIs(is_joined(F, self.PAIRS, thing), False, thing)
        self.assertIs(is_joined(F, self.PAIRS, [["a", "u", "v", "x", "b"], two]), False)


class IsJoinPaperTest(unittest.TestCase):
    def test_all_parts(self):
        chance = Random(5)
        seen = 0
        for of in CALM[:120]:
            pairs = some_pairs(of, chance)
            rim = of.rim()
            for first in rim:
                for last in rim:
                    for lot in [[], *[[place] for place in of.places()], *map(list, combinations(of.places(), 2))]:
                        if len(stretch(rim, first, last)) < len(rim):
                            due = is_paper_by_hand(of, pairs, ("parts", first, last, lot))
                            seen += due
                            self.assertIs(is_join_paper(of, pairs, ["parts", first, last, lot[::-1]]), due)
                        else:
                            self.assertIs(is_join_paper(of, pairs, ("parts", first, last, lot)), False)
        self.assertGreater(seen, 50)

    def test_across(self):
        wide = board("a b c d e f", "", "a b c d e f")
        pairs = [("a", "d"), ("b", "e"), ("f", "c")]
        self.assertEqual(join_paper(wide, pairs), ("across", 0, 1))
        for index, other in combinations(range(3), 2):
            self.assertIs(is_join_paper(wide, pairs, ("across", index, other)), True)
            self.assertIs(is_join_paper(wide, pairs, ["across", index, other]), True)
            self.assertIs(is_join_paper(wide, pairs, ("across", other, index)), False)
        for thing in [("across", 0, 0), ("across", 0, 3), ("across", -3, 1), ("across", False, True),
                      ("across", 0, True),
                      ("across", "0", "1"), ("across", 0), ("across", 0, 1, 2), ("across", None, 1), ("across", [0], 1),
                      ["parts", 0, 1], (["across"], 0, 1)]:
            self.assertIs(is_join_paper(wide, pairs, thing), False)
        calm = [("a", "b"), ("c", "d"), ("f", "e")]
        self.assertIs(is_join_paper(wide, calm, ("across", 0, 1)), False)

    def test_parts_whether_some_alternate_or_not(self):
        pairs = [("a", "c"), ("b", "d")]
        self.assertEqual(join_paper(W, pairs), ("across", 0, 1))
        self.assertIs(is_join_paper(W, pairs, ("parts", "a", "b", ["x"])), True)

    def test_any_object(self):
        pairs = [("a", "d"), ("b", "c")]
        self.assertIs(is_join_paper(F, pairs, ["parts", "a", "b", ("x",)]), True)
        for thing in [*odd_things(), ("parts", "a", "b"), ("parts", "a", "b", ["x"], 1), ("part", "a", "b", ["x"]),
                      ("parts", "a", "b", ["u"]), ("parts", "a", "b", ["x", "x"]), ("parts", "a", "b", ["x", "u"]),
                      ("parts", "a", "b", []), ("parts", "a", "b", "x"), ("parts", "a", "b", None),
                      ("parts", "a", "b", ["zz"]), ("parts", "a", "b", [1]), ("parts", "a", "b", [["x"]]),
                      ("parts", "a", "b", {"x": 1}), ("parts", "a", "x", ["x"]), ("parts", "u", "b", ["x"]),
                      ("parts", "a", "d", ["x"]), ("parts", "b", "a", ["x"]), ("parts", None, "b", ["x"]),
                      ("parts", "a", ["b"], ["x"]), ("parts", "a", "a", []), ("parts", "a", "a", ["x"]),
                      {0: "parts", 1: "a", 2: "b", 3: ["x"]}, F, ("parts", F, F, ["x"])]:
            self.assertIs(is_join_paper(F, pairs, thing), False, thing)


if __name__ == "__main__":
    unittest.main()

"""Points 15, 16, 18 and 22: ways apart, and one more."""

import unittest
from itertools import permutations

from mustcross.apart import apart_fault, one_more, ways_apart
from mustcross.boards import Board
from mustcross.errors import BadBoard, BadLot, BadWays
from mustcross.fans import fan, fan_parting
from mustcross.partings import count_partings, is_parting, parting, parting_at, parts_how
from mustcross.passed import must_pass
from support import (EMPTY, F, P, Q, W, Z, all_ways, board, cases, is_apart, most_disjoint, no_boards,
                     no_places, odd_things, raises_thing, raises_with, told_new, tupled, unchanged)


class WaysApartTest(unittest.TestCase):
    def test_examples(self):
        self.assertEqual(ways_apart(P, ["a", "b"], ["e"])[0][1:], ["c", "d", "e"])
        self.assertEqual(len(ways_apart(P, ["a", "b"], ["e"])), 1)
        self.assertEqual(len(ways_apart(P, ["a", "c"], ["c", "e"])), 1)
        self.assertEqual(ways_apart(Q, ["a", "b"], ["d", "e"]), [["a", "c", "d"], ["b", "e"]])

    def test_as_many_as_can_be(self):
        for of, some, others in cases(60):
            told = ways_apart(of, some, others)
            self.assertTrue(is_apart(of, some, others, told))
            self.assertEqual(told, sorted(told))
            self.assertEqual(len(told), most_disjoint(all_ways(of, some, others)))
            self.assertIsNone(apart_fault(of, some, others, told))

    def test_nobody(self):
        self.assertEqual(ways_apart(EMPTY, [], []), [])
        self.assertEqual(ways_apart(F, [], ["a"]), [])
        self.assertEqual(ways_apart(F, ["a"], []), [])

    def test_places_of_both_are_ways_by_themselves(self):
        self.assertEqual(ways_apart(Z, ["p", "q"], ["q", "p"]), [["p"], ["q"]])
        self.assertEqual(ways_apart(W, W.places(), W.places()), [[place] for place in W.places()])
        self.assertEqual(ways_apart(board("a b", "", ""), ["a"], ["a", "b"]), [["a"]])

    def test_the_same_for_equal_arguments(self):
        for of, some, others in cases(15):
            again = Board(of.places()[::-1], [tie[::-1] for tie in of.ties()][::-1], of.rim())
            self.assertEqual(ways_apart(again, tuple(some), tuple(others)), ways_apart(of, some, others))

    def test_told_new_and_unchanged(self):
        for of, some, others in cases(10):
            told_new(self, lambda row=(of, some, others): ways_apart(*row))
            unchanged(self, ways_apart, of, some, others)

    def test_forty_places(self):
        names = [f"p{number}" for number in range(40)]
        whole = Board(names, [(one, other) for one in names for other in names if one < other], [])
        self.assertEqual(len(ways_apart(whole, names[:20], names[20:])), 20)
        grid = [f"g{row}{col}" for row in range(5) for col in range(8)]
        ties = [(one, other) for one in grid for other in grid
                if abs(int(one[1]) - int(other[1])) + abs(int(one[2]) - int(other[2])) == 1 and one < other]
        told = ways_apart(Board(grid, ties, []), grid[:8], grid[32:])
        self.assertEqual(len(told), 8)
        self.assertTrue(is_apart(Board(grid, ties, []), grid[:8], grid[32:], told))

    def test_a_greedy_way_is_led_back(self):
        of = board("a b c d e f", "a c, c d, d f, b d, c e", "")
        told = ways_apart(of, ["a", "b"], ["e", "f"])
        self.assertEqual(told, [["a", "c", "e"], ["b", "d", "f"]])
        self.assertEqual(one_more(of, ["a", "b"], ["e", "f"], [["a", "c", "d", "f"]]), told)


class ApartFaultTest(unittest.TestCase):
    def fault(self, ways, due, some=("a", "b"), others=("d", "e")):
        self.assertEqual(apart_fault(Q, list(some), list(others), ways), due)
        self.assertEqual(apart_fault(Q, some, others, tupled(ways)), due)

    def test_none(self):
        self.fault([], None)
        self.fault([["a", "c", "d"], ["b", "e"]], None)
        self.fault([["b", "e"], ["a", "c", "d"]], None)
        self.fault([["b", "c", "d", "e"]], None)
        self.fault([["d"]], None, ["d"], ["d"])
        self.fault([["a", "c", "b", "e"]], None)

    def test_form(self):
        for thing in [*odd_things(), "ab", {}, F, None]:
            if not isinstance(thing, (list, tuple)):
                self.assertEqual(apart_fault(Q, ["a"], ["e"], thing), ("form",))

    def test_way(self):
        for thing in odd_things():
            self.assertEqual(apart_fault(Q, ["b"], ["e"], [["b", "e"], thing]), ("way", 1))
        self.fault([["a", "d"]], ("way", 0))
        self.fault([["b", "e"], []], ("way", 1))
        self.fault([["b", "e"], ["a", "c", "a"]], ("way", 1))
        self.fault([["e", "b"], ["a", "b"]], ("way", 1))
        self.fault([["b", "e"], ["b", "e"], 3], ("way", 2))

    def test_begins(self):
        self.fault([["e", "b"]], ("begins", 0))
        self.fault([["b", "e"], ["c", "d"]], ("begins", 1))
        self.fault([["b", "c"], ["c", "d"]], ("begins", 1))
        self.fault([["b", "e"], ["b", "e"], ["d"]], ("begins", 2))

    def test_ends(self):
        self.fault([["a", "c"]], ("ends", 0))
        self.fault([["b", "e"], ["a"]], ("ends", 1))
        self.fault([["b", "e"], ["b", "e"], ["a"]], ("ends", 2))

    def test_meets(self):
        self.fault([["b", "e"], ["a", "c", "d", "e"]], ("meets", 1))
        self.fault([["b", "e"], ["b", "e"]], ("meets", 1))
        self.fault([["a", "c", "d"], ["b", "c", "d", "e"]], ("meets", 1))
        self.fault([["d"], ["e"], ["a", "c", "d"]], ("meets", 2), ["a", "d", "e"])

    def test_kinds_of_what_is_told(self):
        for ways in [None, [3], [["e"]], [["a"]], [["b", "e"], ["b", "e"]]]:
            told = apart_fault(Q, ["a", "b"], ["d", "e"], ways)
            self.assertIs(told.__class__, tuple)

    def test_unchanged(self):
        unchanged(self, apart_fault, Q, ["b", "a"], ["e", "d"], [["b", "e"], ["a", "c"]])


class OneMoreTest(unittest.TestCase):
    def test_examples(self):
        self.assertEqual(one_more(Q, ["a", "b"], ["d", "e"], [["b", "c", "d"]]), [["a", "c", "d"], ["b", "e"]])
        self.assertIsNone(one_more(Q, ["a", "b"], ["d", "e"], [["a", "c", "d"], ["b", "e"]]))

    def test_from_whatever_ways(self):
        for of, some, others in cases(25, 5):
            ways = all_ways(of, some, others)
            best = most_disjoint(ways)
            rows = [[]] + [[way] for way in ways] + [[one, two] for one in ways[::2] for two in ways[1::3]
                                                     if not set(one) & set(two)]
            for row in rows[:120]:
                told = unchanged(self, one_more, of, some, others, row)
                if len(row) == best:
                    self.assertIsNone(told)
                    continue
                self.assertEqual(len(told), len(row) + 1)
                self.assertTrue(is_apart(of, some, others, told))
                self.assertEqual(told, sorted(told))
                for at in (0, -1):
                    self.assertLessEqual({way[at] for way in row}, {way[at] for way in told})

    def test_begin_in_a_place_that_a_way_goes_over(self):
        of = board("a b c d", "a b, b c, a d", "")
        told = one_more(of, ["a", "b"], ["c", "d"], [["a", "b", "c"]])
        self.assertEqual(told, [["a", "d"], ["b", "c"]])

    def test_lists_and_tuples(self):
        told = one_more(Q, ("a", "b"), ("d", "e"), (("b", "c", "d"),))
        self.assertEqual(told, [["a", "c", "d"], ["b", "e"]])

    def test_none_at_all(self):
        self.assertIsNone(one_more(EMPTY, [], [], []))
        self.assertEqual(one_more(Z, ["p"], ["p"], []), [["p"]])

    def test_bad_ways(self):
        for thing in [*odd_things(), [["a"]], [["b", "e"], ["b", "e"]], ["b", "e"], [["e", "b"]], F]:
            if thing != [] and thing != ():
                raises_thing(self, BadWays, thing, one_more, Q, ["a", "b"], ["d", "e"], thing)

    def test_told_new(self):
        told_new(self, lambda: one_more(Q, ["a", "b"], ["d", "e"], [["b", "c", "d"]]))


class LotErrorTest(unittest.TestCase):
    """BadBoard and BadLot of all functions of section 4, in order."""

    CALLS = [ways_apart, lambda of, some, others: apart_fault(of, some, others, None),
             lambda of, some, others: one_more(of, some, others, None), parting,
             lambda of, some, others: is_parting(of, some, others, None), count_partings,
             lambda of, some, others: parting_at(of, some, others, None),
             lambda of, some, others: parts_how(of, some, others, None), must_pass]

    def test_bad_board(self):
        for call in self.CALLS:
            for thing in no_boards():
                raises_thing(self, BadBoard, thing, call, thing, None, None)

    def test_bad_lot(self):
        rows = [(["a", "b", "a"], 2), (["a", "zz"], 1), (["a", ["b"]], 1), ([1], 0), (["a", "b", "a", 1], 2),
                (["zz", "a", "a"], 0), ([True], 0), ([Q], 0), ([None, None], 0), (["a", ""], 1)]
        for call in self.CALLS:
            for lot, index in rows:
                raises_with(self, BadLot, {"index": index}, call, Q, lot, None)
                raises_with(self, BadLot, {"index": index}, call, Q, tuple(lot), ["a", "zz", 3, 4, "zz"])
                raises_with(self, BadLot, {"index": index}, call, Q, ["e"], lot)

    def test_no_list(self):
        for call in self.CALLS:
            for thing in [None, True, 0, "", "a", "ab", {}, {"a": 1}, len, Q]:
                raises_with(self, BadLot, {"index": 0}, call, Q, thing, ["a", "zz"])
                raises_with(self, BadLot, {"index": 0}, call, Q, ["a"], thing)

    def test_any_object(self):
        for call in self.CALLS:
            for thing in no_places():
                raises_with(self, BadLot, {"index": 1}, call, Q, ["a", thing], [])
                raises_with(self, BadLot, {"index": 1}, call, Q, [], ["a", thing])

    def test_by_name(self):
        self.assertEqual(ways_apart(others=["e"], some=["b"], board=Q), [["b", "e"]])
        self.assertIsNone(apart_fault(thing=[], others=["e"], some=["b"], board=Q))
        self.assertEqual(one_more(ways=[], others=["e"], some=["b"], board=Q), [["b", "e"]])
        self.assertEqual(parting(others=["e"], some=["b"], board=Q), ["b"])
        self.assertTrue(is_parting(thing=["b"], others=["e"], some=["b"], board=Q))
        self.assertEqual(count_partings(others=["e"], some=["b"], board=Q), 2)
        self.assertEqual(parting_at(number=1, others=["e"], some=["b"], board=Q), ["e"])
        self.assertEqual(parts_how(place="e", others=["e"], some=["b"], board=Q), "some")
        self.assertEqual(must_pass(others=["e"], some=["b"], board=Q), ["b", "e"])
        self.assertEqual(fan(others=["e"], place="b", board=Q), [["b", "e"]])
        self.assertEqual(fan_parting(others=["e"], place="b", board=Q), ["e"])

    def test_one_board_asked_in_turns(self):
        lots = [list(row) for row in permutations(Q.places(), 2)]
        ahead = [ways_apart(Q, some, others) for some in lots for others in lots]
        for some in lots[::-1]:
            parting(Q, some, Q.places())
        self.assertEqual([ways_apart(Q, some, others) for some in lots for others in lots], ahead)


if __name__ == "__main__":
    unittest.main()

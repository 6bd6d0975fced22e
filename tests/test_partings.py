"""Points 17, 19, 20, 21 and 22: partings, fans, and places that all ways pass."""

import unittest
from itertools import combinations

from mustcross.boards import Board
from mustcross.errors import BadBoard, BadLot, BadNumber, NoPlace
from mustcross.fans import fan, fan_parting
from mustcross.partings import count_partings, is_parting, parting, parting_at, parts_how
from mustcross.passed import must_pass
from support import (EMPTY, F, P, Q, W, Z, all_subsets, all_ways, board, cases, is_apart,
                     most_disjoint, no_boards, no_numbers, no_places, odd_things, raises_thing,
                     raises_with, small_boards, told_new, unchanged)


def without(of, place):
    """The board without a place."""
    return Board([other for other in of.places() if other != place],
                 [tie for tie in of.ties() if place not in tie], [pin for pin in of.rim() if pin != place])


def parts(ways, lot):
    return all(set(way) & set(lot) for way in ways)


def least_by_hand(of, ways):
    """All least lots with a place of each way, ascending."""
    for many in range(len(of.places()) + 1):
        found = [list(row) for row in combinations(of.places(), many) if parts(ways, row)]
        if found:
            return found
    raise AssertionError


def come_by_hand(ways, lot):
    """What some come to without a lot, of all ways that begin in some."""
    return {place for way in ways if not set(way) & set(lot) for place in way}


class PartingTest(unittest.TestCase):
    def test_examples(self):
        self.assertEqual(parting(P, ["a", "b"], ["e"]), ["c"])
        self.assertEqual(count_partings(P, ["a", "b"], ["e"]), 3)
        self.assertEqual([parting_at(P, ["a", "b"], ["e"], number) for number in range(3)], [["c"], ["d"], ["e"]])
        self.assertEqual(parts_how(P, ["a", "b"], ["e"], "c"), "some")
        self.assertEqual(parts_how(P, ["a", "b"], ["e"], "a"), "none")
        self.assertEqual(parting(P, ["a", "c"], ["c", "e"]), ["c"])

    def test_nearest_least_one(self):
        for of, some, others in cases(50):
            told = parting(of, some, others)
            ways = all_ways(of, some, others)
            least = least_by_hand(of, ways)
            self.assertIn(told, least)
            free = all_ways(of, some, of.places())
            come = come_by_hand(free, told)
            for other in least:
                self.assertLessEqual(come, come_by_hand(free, other))
                if other != told:
                    self.assertNotEqual(come, come_by_hand(free, other))
            self.assertEqual(len(told), most_disjoint(ways))

    def test_any_parting(self):
        for of, some, others in cases(12, 5):
            ways = all_ways(of, some, others)
            for lot in all_subsets(of.places()):
                self.assertEqual(is_parting(of, some, others, lot), parts(ways, lot))
                self.assertEqual(is_parting(of, some, others, tuple(lot[::-1])), parts(ways, lot))

    def test_any_object(self):
        for thing in [*odd_things(), "c", {"c": 1}, ["c", "c"], ["c", "zz"], ["c", ["d"]], [["c"]], P]:
            if thing != [] and thing != ():
                self.assertIs(is_parting(P, ["a", "b"], ["e"], thing), False)
        self.assertIs(is_parting(P, ["a", "b"], ["e"], ["e", "c"]), True)
        self.assertIs(is_parting(P, ["a"], [], []), True)
        self.assertIs(is_parting(P, ["a"], ["a"], []), False)

    def test_nothing_to_part(self):
        for of, some, others in [(EMPTY, [], []), (F, [], ["a"]), (board("a b"), ["a"], ["b"])]:
            self.assertEqual(parting(of, some, others), [])
            self.assertEqual(count_partings(of, some, others), 1)
            self.assertEqual(parting_at(of, some, others, 0), [])
            self.assertTrue(all(parts_how(of, some, others, place) == "none" for place in of.places()))

    def test_lots_of_all_places(self):
        self.assertEqual(parting(Z, ["q", "p"], ["p", "q"]), ["p", "q"])
        self.assertEqual(parting(W, W.places(), ["x", "a"]), ["a", "x"])
        self.assertEqual(parting(W, ["x", "a"], W.places()), ["a", "x"])

    def test_all_least_ones(self):
        for of, some, others in cases(40):
            ways = all_ways(of, some, others)
            least = least_by_hand(of, ways)
            self.assertEqual(count_partings(of, some, others), len(least))
            for number, due in enumerate(least):
                self.assertEqual(parting_at(of, some, others, number), due)
            for place in of.places():
                many = sum(place in lot for lot in least)
                due = {0: "none", len(least): "all"}.get(many, "some")
                self.assertEqual(parts_how(of, some, others, place), due)
                left = [way for way in ways if place not in way]
                self.assertEqual(due == "none", most_disjoint(left) == most_disjoint(ways))

    def test_twelve_places(self):
        rows = [[f"{sign}{number}" for number in range(3)] for sign in "abcd"]
        ties = [(one, other) for row in rows for one, other in zip(row, row[1:])]
        of = Board(sum(rows, []), ties, [])
        self.assertEqual(count_partings(of, [row[0] for row in rows], [row[2] for row in rows]), 81)
        self.assertEqual(parting_at(of, [row[2] for row in rows], [row[0] for row in rows], 80),
                         ["a2", "b2", "c2", "d2"])
        raises_with(self, BadNumber, {"thing": 81}, parting_at, of, [row[0] for row in rows],
                    [row[2] for row in rows], 81)

    def test_bad_number(self):
        for thing in [*no_numbers(), 3, 4, 10 ** 9]:
            raises_thing(self, BadNumber, thing, parting_at, P, ["a", "b"], ["e"], thing)
        raises_thing(self, BadNumber, 1, parting_at, EMPTY, [], [], 1)

    def test_no_place(self):
        for thing in no_places():
            raises_thing(self, NoPlace, thing, parts_how, P, ["a", "b"], ["e"], thing)
        raises_with(self, BadLot, {"index": 0}, parts_how, P, ["zz"], ["e"], "zz")

    def test_told_new_and_unchanged(self):
        for of, some, others in cases(8):
            for call in [parting, lambda *row: parting_at(*row, 0), count_partings]:
                told_new(self, lambda row=(of, some, others), call=call: call(*row))
                unchanged(self, call, of, some, others)
            unchanged(self, is_parting, of, some, others, of.places()[::-1])

    def test_forty_places(self):
        names = [f"p{number}" for number in range(40)]
        whole = Board(names, [(one, other) for one in names for other in names if one < other], [])
        self.assertEqual(parting(whole, names[:9], names[9:]), sorted(names[:9]))
        self.assertEqual(parting(whole, names[9:], names[:9]), sorted(names[:9]))
        self.assertEqual(must_pass(whole, names[:1], names[3:]), ["p0"])


class FanTest(unittest.TestCase):
    def test_examples(self):
        told = fan(Q, "c", ["a", "b", "e"])
        self.assertEqual(len(told), 3)
        self.assertEqual(fan_parting(Q, "c", ["a", "b", "e"]), ["a", "b", "d"])

    def test_as_many_as_can_be(self):
        for of, some, others in cases(50):
            for place in of.places()[:2]:
                lot = [other for other in others if other != place]
                told = fan(of, place, lot)
                self.assertEqual(told, sorted(told))
                self.assertTrue(all(way[0] == place and len(way) > 1 for way in told))
                self.assertTrue(is_apart(without(of, place), of.ties_of(place), lot, [way[1:] for way in told]))
                ways = [way[1:] for way in all_ways(of, [place], lot)]
                self.assertEqual(len(told), most_disjoint(ways))

    def test_nearest_parting(self):
        for of, some, others in cases(40):
            for place in of.places()[:2]:
                lot = [other for other in others if other != place]
                told = fan_parting(of, place, lot)
                ways = [way[1:] for way in all_ways(of, [place], lot)]
                least = [row for row in least_by_hand(of, ways) if place not in row]
                self.assertIn(told, least)
                free = all_ways(of, [place], of.places())
                for other in least:
                    self.assertLessEqual(come_by_hand(free, told), come_by_hand(free, other))

    def test_nobody(self):
        self.assertEqual(fan(Z, "p", []), [])
        self.assertEqual(fan_parting(Z, "p", []), [])
        self.assertEqual(fan(board("a b"), "a", ["b"]), [])
        self.assertEqual(fan_parting(board("a b"), "a", ["b"]), [])
        self.assertEqual(fan(Z, "p", ["q"]), [["p", "q"]])

    def test_errors(self):
        for call in [fan, fan_parting]:
            for thing in no_boards():
                raises_thing(self, BadBoard, thing, call, thing, None, None)
            for thing in no_places():
                raises_thing(self, NoPlace, thing, call, Q, thing, None)
                raises_with(self, BadLot, {"index": 1}, call, Q, "c", ["a", thing])
            for lot, index in [(["c"], 0), (["a", "c"], 1), (["a", "b", "c", "zz"], 2), (["a", "zz", "c"], 1),
                               (["a", "b", "a", "c"], 2), (None, 0), ("ab", 0), ({}, 0), (["c", "c"], 0)]:
                raises_with(self, BadLot, {"index": index}, call, Q, "c", lot)

    def test_told_new_and_unchanged(self):
        for call in [fan, fan_parting]:
            told_new(self, lambda call=call: call(Q, "c", ["e", "b", "a"]))
            unchanged(self, call, Q, "c", ["e", "b", "a"])
            self.assertEqual(call(Q, "c", ("e", "b", "a")), call(Q, "c", ["e", "b", "a"]))


class PassedTest(unittest.TestCase):
    def test_examples(self):
        self.assertEqual(must_pass(P, ["a", "b"], ["e"]), ["c", "d", "e"])
        self.assertEqual(must_pass(P, ["e"], ["a", "b"]), ["e", "d", "c"])

    def test_all_have_them_in_this_order(self):
        for of, some, others in cases(70):
            ways = all_ways(of, some, others)
            told = must_pass(of, some, others)
            if not ways:
                self.assertEqual(told, [])
                continue
            due = [place for place in ways[0] if all(place in way for way in ways)]
            self.assertEqual(told, due)
            for way in ways:
                self.assertEqual([place for place in way if place in told], told)

    def test_one_way_alone(self):
        of = board("c b a e d", "c b, b a, a e, e d", "")
        self.assertEqual(must_pass(of, ["c"], ["d"]), ["c", "b", "a", "e", "d"])
        self.assertEqual(must_pass(of, ["d"], ["c"]), ["d", "e", "a", "b", "c"])
        self.assertEqual(must_pass(of, ["a"], ["a"]), ["a"])

    def test_no_way(self):
        self.assertEqual(must_pass(EMPTY, [], []), [])
        self.assertEqual(must_pass(board("a b"), ["a"], ["b"]), [])
        self.assertEqual(must_pass(W, [], ["a"]), [])

    def test_told_new_and_unchanged(self):
        told_new(self, lambda: must_pass(P, ["b", "a"], ["e"]))
        unchanged(self, must_pass, P, ["b", "a"], ["e"])


class AgreeTest(unittest.TestCase):
    def test_just_one_for_each_number(self):
        for of, some, others in cases(20):
            ways = all_ways(of, some, others)
            most, least = most_disjoint(ways), len(parting(of, some, others))
            for number in range(6):
                self.assertNotEqual(most >= number, least < number)

    def test_small_boards_are_many_kinds(self):
        self.assertGreater(len({len(of.places()) for of in small_boards(60)}), 5)


if __name__ == "__main__":
    unittest.main()

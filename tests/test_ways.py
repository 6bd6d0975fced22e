"""Points 8 and 15: ways."""

import unittest
from itertools import product

from mustcross.errors import BadBoard
from mustcross.ways import way_fault
from support import EMPTY, F, N, W, Z, no_boards, odd_things, raises_thing, small_boards, tupled, unchanged


def fault_by_hand(of, row):
    """The fault of a list of places of a board, one at least."""
    for index, place in enumerate(row):
        if row.index(place) < index:
            return ("again", index)
    for index in range(1, len(row)):
        if row[index] not in of.ties_of(row[index - 1]):
            return ("no tie", index)
    return None


class WayTest(unittest.TestCase):
    def test_ways(self):
        for way in [["a"], ["a", "u"], ["u", "a"], ["a", "u", "v", "x", "d"], ["a", "x", "b", "u"]]:
            self.assertIsNone(way_fault(F, way))
            self.assertIsNone(way_fault(F, tuple(way)))
        self.assertIsNone(way_fault(Z, ["q", "p"]))

    def test_form(self):
        for thing in [*odd_things(), [], (), ["a", "y"], ["a", 1], ["a", None], ["a", ["u"]], "a", "au",
                      {"a": "u"}, [["a", "u"]], ["a", "u", F], F, ["a", "a", "zz"], ["a", "A"]]:
            self.assertEqual(way_fault(F, thing), ("form",))
        self.assertEqual(way_fault(EMPTY, ["a"]), ("form",))
        self.assertEqual(way_fault(EMPTY, []), ("form",))

    def test_again(self):
        self.assertEqual(way_fault(F, ["a", "u", "a"]), ("again", 2))
        self.assertEqual(way_fault(F, ["a", "a"]), ("again", 1))
        self.assertEqual(way_fault(F, ["a", "b", "b", "a"]), ("again", 2))
        self.assertEqual(way_fault(F, ["a", "b", "u", "v", "u", "a"]), ("again", 4))

    def test_no_tie(self):
        self.assertEqual(way_fault(F, ["a", "b"]), ("no tie", 1))
        self.assertEqual(way_fault(F, ["a", "u", "x", "c", "d"]), ("no tie", 2))
        self.assertEqual(way_fault(F, ["a", "u", "v", "b"]), ("no tie", 3))

    def test_all_rows(self):
        for of in small_boards(12, 4):
            for many in range(1, 5):
                for row in product(of.places(), repeat=many):
                    self.assertEqual(way_fault(of, list(row)), fault_by_hand(of, row))

    def test_kinds_of_what_is_told(self):
        for thing in [[], ["a", "a"], ["a", "b"]]:
            told = way_fault(F, thing)
            self.assertEqual(told, tupled(told))
            self.assertIs(told.__class__, tuple)

    def test_bad_board(self):
        for thing in no_boards():
            raises_thing(self, BadBoard, thing, way_fault, thing, ["a"])
            raises_thing(self, BadBoard, thing, way_fault, thing, None)

    def test_by_name(self):
        self.assertIsNone(way_fault(thing=["a", "x"], board=W))

    def test_unchanged(self):
        unchanged(self, way_fault, N, ["a", "x", "y"])

    def test_what_is_refused_may_be_longer(self):
        self.assertEqual(way_fault(F, ["a", "u"] * 50000), ("again", 2))


if __name__ == "__main__":
    unittest.main()

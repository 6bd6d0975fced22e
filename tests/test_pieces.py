"""Points 23, 24, 25 and 30: pieces, few feet or ways out, least and greatest pieces."""

import unittest
from itertools import permutations

from mustcross.boards import Board
from mustcross.errors import BadBoard, BadNumber, BadPlaces, IsPin, NoPlace
from mustcross.nests import greatest_piece, least_piece
from mustcross.pieces import feet, is_piece, least_feet, piece_with, ways_out
from support import (EMPTY, F, N, W, Z, all_pieces, all_subsets, board, feet_around, hangs,
                     no_boards, no_numbers, no_places, odd_things, raised, raises_thing, raises_with,
                     small_boards, told_new, unchanged)

BOARDS = [F, N, W, Z, EMPTY, *small_boards(60, 8, 5)]


def inner(of):
    return [place for place in of.places() if place not in of.rim()]


class FeetTest(unittest.TestCase):
    def test_examples(self):
        self.assertEqual(feet(F, ["u", "v"]), ["a", "b", "x"])
        self.assertEqual(feet(F, ["v"]), ["u", "x"])

    def test_all_lots(self):
        for of in small_boards(30, 6, 6):
            for lot in all_subsets(of.places()):
                self.assertEqual(feet(of, lot), feet_around(of, lot))
                self.assertEqual(feet(of, tuple(lot[::-1])), feet_around(of, lot))

    def test_pins_too_and_parts_that_do_not_hang_together(self):
        self.assertEqual(feet(F, ["a", "d"]), ["u", "x"])
        self.assertEqual(feet(F, []), [])
        self.assertEqual(feet(F, F.places()), [])
        self.assertEqual(feet(EMPTY, ()), [])

    def test_bad_places(self):
        for places, index in [(["a", "zz"], 1), (["a", "b", "a"], 2), ([1], 0), (["a", ["b"]], 1), (None, 0),
                              ("ab", 0), ({}, 0), (["a", "a", "zz"], 1), ([F], 0), (F, 0), (True, 0)]:
            raises_with(self, BadPlaces, {"index": index}, feet, F, places)
        for thing in no_places():
            raises_with(self, BadPlaces, {"index": 1}, feet, F, ["u", thing, "u"])

    def test_told_new_and_unchanged(self):
        told_new(self, lambda: feet(F, ["v", "u"]))
        unchanged(self, feet, F, ["v", "u"])


class IsPieceTest(unittest.TestCase):
    def test_all_lots(self):
        for of in small_boards(40, 6, 7):
            rows = [lot for lot, _ in all_pieces(of)]
            for lot in all_subsets(of.places()):
                self.assertIs(is_piece(of, lot), lot in rows)

    def test_whatever_order(self):
        for lot in permutations(["u", "v"]):
            self.assertIs(is_piece(F, lot), True)
            self.assertIs(is_piece(F, list(lot)), True)

    def test_any_object(self):
        for thing in [*odd_things(), [], "u", "uv", {"u": 1}, ["u", "u"], ["u", "zz"], ["u", ["v"]], F, ["u", F],
                      ["a"], ["u", "v", "a"], ["x"], ["u", 1], [["u"]], ["u", None]]:
            self.assertIs(is_piece(F, thing), False)

    def test_examples(self):
        two = board("a b c d y z", "a y, b y, c z, d z, y z", "a c b d")
        self.assertEqual([is_piece(two, lot) for lot in [["y"], ["z"], ["y", "z"]]], [True, True, False])
        self.assertEqual(feet(two, ["y"]), ["a", "b", "z"])
        self.assertEqual(feet(two, ["z"]), ["c", "d", "y"])
        self.assertTrue(is_piece(Z, ["q", "p"]))
        self.assertFalse(is_piece(W, ["x"]))

    def test_bad_board(self):
        for call in [is_piece, feet]:
            for thing in no_boards():
                raises_thing(self, BadBoard, thing, call, thing, None)


class FewFeetTest(unittest.TestCase):
    def test_least_feet(self):
        for of in BOARDS:
            pieces = all_pieces(of)
            for place in inner(of):
                due = min([len(around) for lot, around in pieces if place in lot], default=None)
                self.assertEqual(least_feet(of, place), due)

    def test_piece_with(self):
        for of in BOARDS:
            pieces = all_pieces(of)
            for place in inner(of):
                for number in [0, 1, 2, 3, 4, 40, 10 ** 9]:
                    told = piece_with(of, place, number)
                    if any(place in lot and len(around) <= number for lot, around in pieces):
                        self.assertIn((told, feet_around(of, told)), pieces)
                        self.assertIn(place, told)
                        self.assertLessEqual(len(feet_around(of, told)), number)
                    else:
                        self.assertIsNone(told)

    def test_ways_out(self):
        for of in BOARDS:
            for place in inner(of):
                for number in range(6):
                    told = ways_out(of, place, number)
                    if told is None:
                        continue
                    self.assertEqual(len(told), number)
                    self.assertTrue(all(way[0] == place and way[-1] in of.rim() for way in told))
                    self.assertTrue(all(other in of.ties_of(one) for way in told
                                        for one, other in zip(way, way[1:])))
                    places = [step for way in told for step in way[1:]] + [place]
                    self.assertEqual(len(set(places)), len(places))

    def test_just_one(self):
        for of in BOARDS:
            for place in inner(of):
                for number in range(4):
                    piece, ways = piece_with(of, place, number), ways_out(of, place, number + 1)
                    self.assertTrue((piece is None) != (ways is None))

    def test_more_ways_than_four(self):
        star = board("a b c d e x", "a x, b x, c x, d x, e x", "a b c d e")
        self.assertEqual(len(ways_out(star, "x", 5)), 5)
        self.assertIsNone(ways_out(star, "x", 6))
        self.assertIsNone(ways_out(star, "x", 40))
        self.assertIsNone(ways_out(star, "x", 10 ** 9))
        self.assertIsNone(piece_with(star, "x", 5))
        self.assertIsNone(least_feet(star, "x"))

    def test_examples(self):
        told = ways_out(F, "u", 3)
        self.assertEqual(sorted(way[-1] for way in told)[:2], ["a", "b"])
        self.assertIsNone(ways_out(F, "u", 4))
        self.assertEqual(ways_out(F, "u", 0), [])
        self.assertEqual(least_feet(F, "u"), 3)
        self.assertEqual(least_feet(F, "v"), 2)
        self.assertIsNone(least_feet(F, "x"))
        self.assertEqual(least_feet(Z, "p"), 0)

    def test_no_pins(self):
        self.assertEqual(piece_with(Z, "q", 0), ["p", "q"])
        self.assertIsNone(ways_out(Z, "q", 1))
        self.assertEqual(ways_out(Z, "q", 0), [])
        self.assertEqual(piece_with(board("a b"), "a", 3), ["a"])

    def test_bad_number(self):
        for call in [piece_with, ways_out]:
            for thing in no_numbers():
                raises_thing(self, BadNumber, thing, call, F, "u", thing)
                raises_thing(self, BadNumber, thing, call, Z, "p", thing)

    def test_order_of_errors(self):
        for call in [piece_with, ways_out]:
            for thing in no_boards():
                raises_thing(self, BadBoard, thing, call, thing, None, None)
            for thing in no_places():
                raises_thing(self, NoPlace, thing, call, F, thing, None)
            raises_with(self, IsPin, {"place": "a"}, call, F, "a", None)
            raises_with(self, IsPin, {"place": "d"}, call, F, "d", 1)

    def test_no_place_and_pins(self):
        for call in [least_feet, least_piece, greatest_piece]:
            for thing in no_boards():
                raises_thing(self, BadBoard, thing, call, thing, None)
            for thing in no_places():
                raises_thing(self, NoPlace, thing, call, F, thing)
                raises_thing(self, NoPlace, thing, call, EMPTY, thing)
            for pin in F.rim():
                self.assertIs(raised(self, IsPin, call, F, pin).place, pin)

    def test_by_name(self):
        self.assertEqual(feet(places=["v"], board=F), ["u", "x"])
        self.assertTrue(is_piece(thing=["v"], board=F))
        self.assertEqual(least_feet(place="v", board=F), 2)
        self.assertEqual(piece_with(number=2, place="v", board=F), ["v"])
        self.assertEqual(len(ways_out(number=2, place="v", board=F)), 2)
        self.assertEqual(least_piece(place="v", board=F), ["v"])
        self.assertEqual(greatest_piece(place="v", board=F), ["v"])

    def test_told_new(self):
        told_new(self, lambda: piece_with(F, "u", 3))
        told_new(self, lambda: ways_out(F, "u", 3))

    def test_the_same_for_equal_boards(self):
        for of in BOARDS:
            again = Board(of.places()[::-1], of.ties()[::-1], of.rim())
            for place in inner(of):
                self.assertEqual(ways_out(again, place, 2), ways_out(of, place, 2))
                self.assertEqual(piece_with(again, place, 2), piece_with(of, place, 2))


class NestTest(unittest.TestCase):
    def test_examples(self):
        self.assertEqual(greatest_piece(F, "u"), ["u", "v"])
        self.assertEqual(least_piece(F, "u"), ["u"])
        self.assertEqual(greatest_piece(F, "v"), ["v"])
        self.assertEqual(least_piece(F, "v"), ["v"])
        self.assertIsNone(least_piece(F, "x"))
        self.assertIsNone(greatest_piece(F, "x"))

    def test_within_all_and_all_within(self):
        for of in BOARDS:
            pieces = all_pieces(of)
            for place in inner(of):
                own = [(lot, len(around)) for lot, around in pieces if place in lot]
                fewest = min([many for _, many in own], default=None)
                lots = [lot for lot, many in own if many == fewest]
                least, greatest = least_piece(of, place), greatest_piece(of, place)
                if not lots:
                    self.assertEqual((least, greatest), (None, None))
                    continue
                self.assertIn(least, lots)
                self.assertIn(greatest, lots)
                for lot in lots:
                    self.assertLessEqual(set(least), set(lot))
                    self.assertLessEqual(set(lot), set(greatest))

    def test_told_new(self):
        for call in [least_piece, greatest_piece]:
            told_new(self, lambda call=call: call(F, "u"))

    def test_no_pins(self):
        self.assertEqual(least_piece(Z, "p"), ["p", "q"])
        self.assertEqual(greatest_piece(Z, "p"), ["p", "q"])

    def test_two_together_and_in_common(self):
        for of in small_boards(25, 6, 8):
            lots = [lot for lot, _ in all_pieces(of)]
            for one in lots:
                for other in lots:
                    both = sorted(set(one) | set(other))
                    common = sorted(set(one) & set(other))
                    self.assertLessEqual(len(feet(of, both)) + len(feet(of, common)),
                                         len(feet(of, one)) + len(feet(of, other)))


class LimitTest(unittest.TestCase):
    def test_forty_places(self):
        names = [f"g{row}{col}" for row in range(5) for col in range(8)]
        ties = [(one, other) for one in names for other in names if one < other
                and abs(int(one[1]) - int(other[1])) + abs(int(one[2]) - int(other[2])) == 1]
        of = Board(names, ties, ["g00", "g07", "g47", "g40"])
        self.assertEqual(least_feet(of, "g22"), None)
        self.assertEqual(len(ways_out(of, "g22", 4)), 4)
        self.assertEqual(greatest_piece(of, "g01"), ["g01"])
        three = Board(names, ties, ["g00", "g07", "g47"])
        self.assertEqual(greatest_piece(three, "g22"), sorted(set(names) - {"g00", "g07", "g47"}))
        self.assertTrue(hangs(three, least_piece(three, "g22")))


if __name__ == "__main__":
    unittest.main()

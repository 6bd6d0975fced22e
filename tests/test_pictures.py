"""Points 32, 33 and 36: pictures, and just one of a cross and a picture."""

import unittest
from random import Random

from byhand import all_drawings, flat_board, grid, is_picture_of
from mustcross.boards import Board
from mustcross.crosses import cross
from mustcross.drawings import drawing, drawing_fault
from mustcross.errors import BadBoard
from mustcross.folding import folded
from mustcross.pictures import is_picture, picture, picture_fault
from support import (EMPTY, F, N, W, Z, all_pieces, board, listed, no_boards, odd_things, raises_thing, small_boards,
                     told_new, tupled, unchanged)

PLAIN_W = ([], {"a": ["x"], "b": ["x"], "c": ["x"], "d": ["x"], "x": ["a", "b", "c", "d"]})
PICTURE_F = ([(["u", "v"], ["a", "b", "x"])],
             {"a": ["b", "x"], "b": ["x", "a"], "c": ["x"], "d": ["x"], "x": ["a", "b", "c", "d"]})
TRIPLE = board("a b c d x y z", "a x, b x, c x, a y, b y, c y, a z, b z, c z", "a b c d")
PICTURE_TRIPLE = ([(["x"], ["a", "b", "c"]), (["y"], ["a", "b", "c"]), (["z"], ["a", "b", "c"])],
                  {"a": ["b", "c"], "b": ["c", "a"], "c": ["a", "b"], "d": []})
BOARDS = [F, N, W, Z, EMPTY, TRIPLE, *small_boards(500, 8, 81)]


class PictureTest(unittest.TestCase):
    def test_examples(self):
        self.assertEqual(picture(W), PLAIN_W)
        self.assertEqual(picture(Z), ([(["p", "q"], [])], {}))
        self.assertEqual(picture(TRIPLE)[1], PICTURE_TRIPLE[1])
        self.assertIsNone(drawing(TRIPLE))
        self.assertIsNone(picture(N))
        self.assertEqual(picture(EMPTY), ([], {}))

    def test_just_one_of_both_and_each_right(self):
        for of in BOARDS:
            told = picture(of)
            self.assertNotEqual(told is None, cross(of) is None)
            if told is not None:
                self.assertIsInstance(told, tuple)
                self.assertTrue(is_picture_of(of, told), (of.places(), of.ties(), of.rim(), told))
                self.assertTrue(all(isinstance(fold, tuple) and feet == sorted(feet) for fold in told[0]
                                    for feet in [fold[1]]))
                self.assertIsNone(picture_fault(of, told))
                self.assertIs(is_picture(of, told), True)

    def test_fewer_than_four_pins(self):
        for of in small_boards(200, 8, 82):
            self.assertTrue(is_picture_of(Board(of.places(), of.ties(), of.rim()[:3]),
                                          picture(Board(of.places(), of.ties(), of.rim()[:3]))))

    def test_great_boards(self):
        for of in [grid(6, 6), grid(5, 8, (), "corners"), flat_board(1, 24, 16), flat_board(2, 10, 18, 90, 3)]:
            self.assertTrue(is_picture_of(of, picture(of)))
            self.assertTrue(is_picture(of, picture(of)))

    def test_told_new_and_unchanged(self):
        for of in [F, TRIPLE, Z]:
            told_new(self, lambda: picture(of))
            unchanged(self, picture_fault, of, picture(of))

    def test_bad_board(self):
        for thing in no_boards():
            raises_thing(self, BadBoard, thing, picture, thing)
            raises_thing(self, BadBoard, thing, picture_fault, thing, None)
            raises_thing(self, BadBoard, thing, is_picture, thing, None)


class PictureFaultTest(unittest.TestCase):
    def test_examples(self):
        for of, thing in [(W, PLAIN_W), (F, PICTURE_F), (TRIPLE, PICTURE_TRIPLE), (Z, ([(["p", "q"], [])], {})),
                          (Z, ([], {"p": ["q"], "q": ["p"]}))]:
            self.assertIsNone(picture_fault(of, thing))
            self.assertIs(is_picture(of, thing), True)
        self.assertEqual(picture_fault(TRIPLE, ([(["x"], ["a", "b"])], {})), ("fold", 0))

    def test_w_has_just_one_without_folds(self):
        self.assertEqual(all_drawings(W), [PLAIN_W[1]])

    def test_lots_and_feet_in_whatever_order_and_rings_from_anywhere(self):
        folds, orders = PICTURE_F
        turned = ([[["v", "u"], ("x", "b", "a")]], {**{place: tuple(orders[place]) for place in "xdcba"},
                                                    "x": ["c", "d", "a", "b"]})
        self.assertIsNone(picture_fault(F, turned))
        self.assertIsNone(picture_fault(F, listed(turned[:1]) + [turned[1]]))
        self.assertIsNone(picture_fault(F, (tupled(folds), orders)))

    def test_not_folded_as_far_as_can_be(self):
        self.assertIsNone(picture_fault(F, ([], drawing(F))))
        some = (["v"], ["u", "x"])
        below = drawing(folded(F, ["v"]))
        self.assertIsNone(picture_fault(F, ([some], below)))
        again = (["u"], ["a", "b", "x"])
        self.assertIsNone(picture_fault(F, ([some, again], PICTURE_F[1])))
        self.assertEqual(picture_fault(F, ([again, some], PICTURE_F[1])), ("fold", 0))

    def test_whichever_pieces_are_folded(self):
        chance = Random(8)
        for of in BOARDS:
            left, folds = of, []
            for _ in range(chance.randint(0, 4)):
                rows = all_pieces(left)
                if rows:
                    lot, feet = chance.choice(rows)
                    folds.append((chance.sample(lot, len(lot)), chance.sample(feet, len(feet))))
                    left = folded(left, lot)
            orders = drawing(left)
            if orders is not None:
                self.assertIsNone(picture_fault(of, (folds, orders)))
                self.assertIsNone(cross(of))

    def test_form(self):
        folds, orders = PICTURE_F
        for thing in [*odd_things(), (folds,), (folds, orders, orders), {0: folds, 1: orders}, (None, orders),
                      ({}, orders), ("uv", orders), ([None], orders), ([["u", "v"]], orders), ([(["u", "v"],)], orders),
                      ([("uv", ["a", "b", "x"])], orders), ([(["u", "v"], "abx")], orders), ([*folds, ()], orders),
                      ([(["u", "v"], ["a", "b", "x"], [])], orders), ([*folds, (["x"], None)], orders), F]:
            self.assertEqual(picture_fault(F, thing), ("form",), thing)
            self.assertIs(is_picture(F, thing), False)

    def test_form_of_the_second_thing_comes_last(self):
        folds = PICTURE_F[0]
        for thing in odd_things():
            self.assertEqual(picture_fault(F, (folds, thing)), ("form",))
            self.assertEqual(picture_fault(F, ([(["u", "v"], ["a", "b"])], thing)), ("fold", 0))

    def test_fold(self):
        folds, orders = PICTURE_F
        for fold in [(["u", "v"], ["a", "b"]), (["u", "v"], ["a", "b", "x", "x"]), (["u", "v"], ["a", "b", "c"]),
                     (["u", "v"], ["a", "b", "x", "c"]), (["u", "v"], []), (["u", "v"], ["a", "b", 1]),
                     (["u", "v"], ["a", "b", ["x"]]), (["u", "v"], ["a", "a", "b"]), (["a"], ["u", "x"]),
                     (["x"], ["a", "b", "c", "d", "v"]), ([], []), (["u", "u"], ["a", "b", "v"]), (["zz"], []),
                     (["u", None], ["a"]), ([["u"]], ["a"]), (["v", "x"], ["a", "b", "c", "d", "u"])]:
            self.assertEqual(picture_fault(F, ([fold], orders)), ("fold", 0), fold)
            self.assertEqual(picture_fault(F, ([*folds, fold], orders)), ("fold", 1), fold)
        self.assertEqual(picture_fault(F, (folds * 2, orders)), ("fold", 1))
        self.assertEqual(picture_fault(TRIPLE, (PICTURE_TRIPLE[0][:2] + [(["z"], ["a", "b"])], None)), ("fold", 2))
        apart = board("a b c u v", "a u, b v", "a b c")
        self.assertEqual(picture_fault(apart, ([(["u", "v"], ["a", "b"])], {})), ("fold", 0))

    def test_what_is_left_has_to_be_drawn(self):
        for of in BOARDS:
            told = picture(of)
            if told is not None:
                left = of
                for lot, _ in told[0]:
                    left = folded(left, lot)
                orders = told[1]
                for place in orders:
                    for row in [orders[place][1:], orders[place] + ["zz"], orders[place][::-1], orders[place] * 2]:
                        thing = {**orders, place: row}
                        self.assertEqual(picture_fault(of, (told[0], thing)), drawing_fault(left, thing))
        turned = {**PLAIN_W[1], "x": ["a", "c", "b", "d"]}
        self.assertEqual(picture_fault(W, ([], turned)), ("faces", 2, 4))
        self.assertEqual(picture_fault(F, (PICTURE_F[0], drawing(F))), ("form",))
        self.assertEqual(picture_fault(F, ([], PICTURE_F[1])), ("form",))


if __name__ == "__main__":
    unittest.main()

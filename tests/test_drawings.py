"""Points 37, 38, 41 and 44: drawings, their faces, mirrored ones."""

import unittest
from itertools import combinations
from random import Random

from byhand import (all_drawings, all_orders, euler, flat_board, grid, is_drawing_of, is_told_drawing, part_of,
                    random_board, rings_of, triangles, walk, with_rim)
from mustcross.boards import Board
from mustcross.drawings import drawing, drawing_fault, faces, mirrored, share_face
from mustcross.errors import BadBoard, BadDrawing, NoPlace
from support import (EMPTY, F, N, W, Z, board, no_boards, no_places, odd_things, raises_thing, small_boards, told_new,
                     tupled, unchanged)

DRAWN_W = {"a": ["x"], "b": ["x"], "c": ["x"], "d": ["x"], "x": ["a", "b", "c", "d"]}
DRAWN_F = {"a": ["u", "x"], "b": ["x", "u"], "c": ["x"], "d": ["x"], "u": ["a", "b", "v"], "v": ["u", "x"],
           "x": ["a", "v", "b", "c", "d"]}
BOARDS = [F, N, W, Z, EMPTY, *small_boards(600, 7, 91)]
FLAT = [flat_board(seed, 36 - pins, pins, share) for seed, (pins, share) in
        enumerate([(4, 100), (5, 90), (8, 80), (12, 70), (16, 60), (20, 40), (36, 90)])]


class DrawingTest(unittest.TestCase):
    def test_examples(self):
        self.assertEqual(drawing(W), DRAWN_W)
        self.assertEqual(drawing(Z), {"p": ["q"], "q": ["p"]})
        self.assertEqual(drawing(EMPTY), {})
        self.assertIsNone(drawing(N))
        self.assertIsNone(drawing_fault(F, DRAWN_F))

    def test_there_is_one_just_if_some_orders_are(self):
        seen = 0
        for of in BOARDS:
            rows = all_drawings(of)
            told = drawing(of)
            if told is not None:
                self.assertTrue(is_told_drawing(of, told), (of.places(), of.ties(), of.rim(), told))
                self.assertIsNone(drawing_fault(of, told))
            if rows is not None:
                seen += 1
                self.assertEqual(told is None, not rows)
                self.assertTrue(told is None or told in rows)
        self.assertGreater(seen, 300)

    def test_rims_of_one_two_and_three_pins(self):
        ring = "a b, b c, c d, d a"
        for rim in ["", "a", "a b", "b a", "a c", "a b c", "c b a", "a c d"]:
            of = board("a b c d e", ring + ", a e", rim)
            self.assertTrue(is_told_drawing(of, drawing(of)), rim)
        five = list(combinations("abcde", 2))
        for rim in ["", "a", "ab", "abc"]:
            self.assertIsNone(drawing(Board(list("abcde"), five, list(rim))))

    def test_great_boards(self):
        for of in [*FLAT, grid(6, 6), grid(5, 8, (), "corners")]:
            self.assertTrue(is_told_drawing(of, drawing(of)))
            chance = Random(1)
            rim = of.rim()
            for turned in [rim[1:] + rim[:1], rim[::-1]]:
                self.assertTrue(is_told_drawing(with_rim(of, turned), drawing(with_rim(of, turned))))
            if len(rim) > 4 and len(of.ties()) > 60:
                one, other = chance.sample(range(len(rim)), 2)
                rim[one], rim[other] = rim[other], rim[one]
                told = drawing(with_rim(of, rim))
                self.assertTrue(told is None or is_told_drawing(with_rim(of, rim), told))
        for seed in range(3):
            self.assertIsNone(drawing(random_board(seed, 40, 100, 8)))

    def test_full_discs_have_one_drawing(self):
        for seed in range(6):
            of = Board([f"q{at}" for at in range(5)] + [f"v{at}" for at in range(9)],
                       triangles(9, 5, Random(seed)), [f"q{at}" for at in range(5)])
            told = drawing(of)
            self.assertTrue(is_told_drawing(of, told))
            longer = Board([*of.places(), "z"], [*of.ties(), ("z", "v0"), ("z", "v1")], of.rim())
            self.assertEqual(drawing(longer) is not None, share_face(of, told, "v0", "v1"))

    def test_told_new_and_the_same(self):
        told_new(self, lambda: drawing(F))
        first = drawing(F)
        drawing(W)
        again = Board(F.places()[::-1], F.ties()[::-1], F.rim())
        self.assertEqual(drawing(again), first)
        self.assertEqual(list(first), F.places())

    def test_bad_board(self):
        for thing in no_boards():
            raises_thing(self, BadBoard, thing, drawing, thing)
            raises_thing(self, BadBoard, thing, drawing_fault, thing, None)


class DrawingFaultTest(unittest.TestCase):
    def test_all_orders(self):
        for of in BOARDS[:250]:
            for orders in all_orders(of, 300) or []:
                many, due = len(walk(of, orders)), euler(of, orders)
                self.assertLessEqual(many, due)
                self.assertEqual(drawing_fault(of, orders), None if many == due else ("faces", many, due))

    def test_rings_begun_anywhere_and_tuples(self):
        for at in range(4):
            row = DRAWN_W["x"][at:] + DRAWN_W["x"][:at]
            self.assertIsNone(drawing_fault(W, {**DRAWN_W, "x": row}))
            self.assertIsNone(drawing_fault(W, {**tupled_orders(DRAWN_W), "x": tuple(row)}))
        self.assertEqual(drawing_fault(F, {**DRAWN_F, "a": ["x", "u"]})[0], "faces")
        self.assertIsNone(drawing_fault(W, dict(list(DRAWN_W.items())[::-1])))

    def test_example(self):
        self.assertEqual(drawing_fault(W, {**DRAWN_W, "x": ["a", "c", "b", "d"]}), ("faces", 2, 4))

    def test_form(self):
        less = {place: DRAWN_W[place] for place in "abcd"}
        for thing in [*odd_things(), less, {**DRAWN_W, "zz": []}, {**DRAWN_W, 1: []}, {**less, "zz": ["a"]},
                      {**less, 1: ["a"]}, list(DRAWN_W.items()), {**DRAWN_W, "x": "abcd"}, {**DRAWN_W, "x": None},
                      {**DRAWN_W, "x": {"a": 1}}, {**DRAWN_W, "a": 1}, W]:
            self.assertEqual(drawing_fault(W, thing), ("form",))
        self.assertIsNone(drawing_fault(EMPTY, {}))
        self.assertEqual(drawing_fault(EMPTY, []), ("form",))

    def test_order(self):
        for row in [["a", "b", "c"], ["a", "b", "c", "d", "d"], ["a", "b", "c", "x"], ["a", "b", "c", 1],
                    ["a", "b", "c", ["d"]], ["a", "b", "c", None], [], ["a", "a", "b", "c"], ["a", "b", "c", "zz"]]:
            self.assertEqual(drawing_fault(W, {**DRAWN_W, "x": row}), ("order", "x"))
            self.assertEqual(drawing_fault(W, {**DRAWN_W, "x": row, "d": []}), ("order", "d"))
        self.assertEqual(drawing_fault(W, {**DRAWN_W, "d": ["x", "x"], "b": ["a"]}), ("order", "b"))


def tupled_orders(orders):
    return {place: tupled(order) for place, order in orders.items()}


class FacesTest(unittest.TestCase):
    def test_examples(self):
        self.assertEqual(faces(W, DRAWN_W), [["a", "rim", "d", "x"], ["a", "x", "b", "rim"], ["b", "x", "c", "rim"],
                                             ["c", "x", "d", "rim"]])
        self.assertEqual(faces(Z, drawing(Z)), [["p", "q"]])
        self.assertEqual(faces(EMPTY, {}), [])
        self.assertEqual(faces(board("a b", "", "a"), {"a": [], "b": []}), [["a", "rim"]])
        ring = board("a b c", "a b, b c, a c")
        self.assertEqual(faces(ring, drawing(ring)), [["a", "b", "c"], ["a", "c", "b"]])
        self.assertEqual(faces(board("a c b", "a c, c b"), {"a": ["c"], "b": ["c"], "c": ["a", "b"]}),
                         [["a", "c", "b", "c"]])

    def test_all_faces(self):
        for of in [*BOARDS, *FLAT[:3]]:
            told = drawing(of)
            if told is not None:
                found = faces(of, told)
                due = []
                for face in walk(of, told):
                    row = [one for one, _ in face]
                    due.append(min(row[at:] + row[:at] for at in range(len(row))))
                self.assertEqual(found, sorted(due))

    def test_rings_begun_anywhere(self):
        turned = {place: tuple(DRAWN_F[place][1:] + DRAWN_F[place][:1]) if place in "uvx" else DRAWN_F[place]
                  for place in DRAWN_F}
        self.assertEqual(faces(F, turned), faces(F, DRAWN_F))

    def test_errors_and_told_new(self):
        for thing in no_boards():
            raises_thing(self, BadBoard, thing, faces, thing, None)
            raises_thing(self, BadBoard, thing, mirrored, thing, None)
            raises_thing(self, BadBoard, thing, share_face, thing, None, None, None)
        for thing in [*odd_things(), DRAWN_F, {**DRAWN_W, "x": ["a", "c", "b", "d"]}, {**DRAWN_W, "x": []}]:
            raises_thing(self, BadDrawing, thing, faces, W, thing)
            raises_thing(self, BadDrawing, thing, mirrored, W, thing)
            raises_thing(self, BadDrawing, thing, share_face, W, thing, None, None)
        for thing in no_places():
            raises_thing(self, NoPlace, thing, share_face, W, DRAWN_W, thing, None)
            raises_thing(self, NoPlace, thing, share_face, W, DRAWN_W, "a", thing)
        told_new(self, lambda: faces(F, DRAWN_F))
        told_new(self, lambda: mirrored(F, DRAWN_F))
        for call in [faces, mirrored]:
            unchanged(self, call, F, DRAWN_F)


class ShareFaceTest(unittest.TestCase):
    def test_by_faces(self):
        for of in BOARDS[:250]:
            told = drawing(of)
            if told is not None:
                found = [set(one for one, _ in face) for face in walk(of, told)]
                for one in of.places():
                    for other in of.places():
                        self.assertIs(share_face(of, told, one, other), any({one, other} <= row for row in found))

    def test_perhaps_the_same_and_without_ties(self):
        of = board("a b c d", "b d", "a b")
        told = drawing(of)
        self.assertIs(share_face(of, told, "a", "a"), True)
        self.assertIs(share_face(of, told, "c", "c"), False)
        self.assertIs(share_face(of, told, "c", "b"), False)
        self.assertIs(share_face(of, told, "d", "d"), True)

    def test_what_can_be_tied_here(self):
        for of in BOARDS[:300]:
            told = drawing(of)
            if told is None:
                continue
            rings = rings_of(of, told)
            for one, other in combinations(of.places(), 2):
                if other not in of.ties_of(one):
                    due = share_face(of, told, one, other) or other not in part_of(rings, one)
                    self.assertEqual(self.can_be_put_in(of, told, one, other), due)

    def can_be_put_in(self, of, told, one, other):
        more = Board(of.places(), [*of.ties(), (one, other)], of.rim())
        for at in range(len(told[one]) + 1):
            for to in range(len(told[other]) + 1):
                orders = {**told, one: told[one][:at] + [other] + told[one][at:],
                          other: told[other][:to] + [one] + told[other][to:]}
                if is_drawing_of(more, orders):
                    return True
        return False


class MirroredTest(unittest.TestCase):
    def test_all(self):
        for of in [*BOARDS, *FLAT]:
            told = drawing(of)
            if told is not None:
                other = with_rim(of, of.rim()[::-1])
                turned = mirrored(of, told)
                self.assertTrue(is_told_drawing(other, turned))
                self.assertEqual(mirrored(other, turned), told)
                for pin in of.rim():
                    self.assertEqual(turned[pin], told[pin][::-1])
                for place, order in turned.items():
                    rest = told[place][::-1]
                    self.assertIn(order, [rest[at:] + rest[:at] for at in range(max(1, len(rest)))])

    def test_example(self):
        self.assertEqual(mirrored(F, DRAWN_F), {
            "a": ["x", "u"], "b": ["u", "x"], "c": ["x"], "d": ["x"], "u": ["a", "v", "b"], "v": ["u", "x"],
            "x": ["a", "d", "c", "b", "v"]})


if __name__ == "__main__":
    unittest.main()

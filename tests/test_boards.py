"""Points 2, 3 and 7: names and boards."""

import unittest

from mustcross.boards import Board
from mustcross.errors import BadPlaces, BadRim, BadTies, CrossError, NoPlace
from mustcross.notices import Notice
from support import (EMPTY, F, N, W, WORDS, Z, board, frozen, no_boards, no_places, odd_things,
                     raises_thing, raises_with, told_new)

NO_LISTS = [None, True, 0, 3, "", "ab", {}, {"a": "b"}, len, CrossError(), W]


class NameTest(unittest.TestCase):
    def test_names(self):
        for name in ["a", "z", "a0", "z9", "abcdefgh", "a1234567", "zzzzzzzz", "rims", "wa", "ti"]:
            self.assertEqual(Board([name], [], []).places(), [name])

    def test_no_names(self):
        for name in ["", "A", "aB", "0", "0a", "9", "a_", "a-b", "a b", " a", "a ", "a\n", "abcdefghi",
                     "a" * 9, "a" * 1000, "\u00e4", "a\u00e9", "a\u0660", "a\u00b2", "\u0430"]:
            raises_with(self, BadPlaces, {"index": 0}, Board, [name], [], [])

    def test_words_are_no_names(self):
        for word in WORDS:
            raises_with(self, BadPlaces, {"index": 1}, Board, ["a", word], [], [])

    def test_words_with_a_figure_are_names(self):
        for word in WORDS:
            self.assertEqual(Board([word + "1"], [], []).places(), [word + "1"])
            self.assertEqual(Board(["x" + word], [], []).places(), ["x" + word])

    def test_any_object_is_no_name(self):
        for thing in odd_things():
            if thing != "zz":
                raises_with(self, BadPlaces, {"index": 1}, Board, ["a", thing, "a"], [], [])


class BoardTest(unittest.TestCase):
    def test_told_ascending(self):
        made = Board(["x", "b", "a10", "a2", "c"], [["x", "b"], ("c", "a2"), ["b", "a10"]], ["c", "a2", "b"])
        self.assertEqual(made.places(), ["a10", "a2", "b", "c", "x"])
        self.assertEqual(made.ties(), [("a10", "b"), ("a2", "c"), ("b", "x")])
        self.assertEqual(made.rim(), ["c", "a2", "b"])
        self.assertEqual(made.ties_of("b"), ["a10", "x"])
        self.assertEqual(made.ties_of("x"), ["b"])
        self.assertEqual(Board(["a", "b", "c", "d"], [("b", "d"), ("c", "b"), ("b", "a")], []).ties_of("b"),
                         ["a", "c", "d"])

    def test_kinds_of_what_is_told(self):
        self.assertTrue(all(tie.__class__ is tuple for tie in F.ties()))
        made = Board(("b", "a"), (("b", "a"),), ("b",))
        for told in [made.places(), made.ties(), made.rim(), made.ties_of("a")]:
            self.assertIs(told.__class__, list)
        self.assertEqual(made, Board(["a", "b"], [["a", "b"]], ["b"]))

    def test_nothing(self):
        self.assertEqual((EMPTY.places(), EMPTY.ties(), EMPTY.rim()), ([], [], []))
        self.assertEqual(Board((), (), ()), EMPTY)

    def test_no_pins_and_no_ties(self):
        self.assertEqual(Z.rim(), [])
        self.assertEqual(board("a b", "", "b").ties(), [])
        self.assertEqual(board("a b", "", "b").ties_of("b"), [])

    def test_all_are_pins(self):
        self.assertEqual(board("a b c", "a b", "c a b").rim(), ["c", "a", "b"])

    def test_forty_places_eight_hundred_ties(self):
        names = [f"p{number}" for number in range(40)]
        ties = [(one, other) for one in names for other in names if one > other]
        made = Board(names, ties, names)
        self.assertEqual(len(made.ties()), 780)
        self.assertEqual(made.places(), sorted(names))
        self.assertEqual(made.rim(), names)
        self.assertEqual(made.ties_of("p0"), sorted(names[1:]))

    def test_bad_places(self):
        for places, index in [(["a", "b", "a"], 2), (["a", "a", "b", "A"], 1), (["a", 1, "a"], 1),
                              ([["a"], "a"], 0), (["a", "b", True], 2), (["rim", "rim"], 0), ([W], 0)]:
            raises_with(self, BadPlaces, {"index": index}, Board, places, [], [])
            raises_with(self, BadPlaces, {"index": index}, Board, tuple(places), [], [])

    def test_bad_ties(self):
        for ties, index in [([["a", "b"], ["b", "a"]], 1), ([["a", "b"], ["a", "b"]], 1), ([["a", "a"]], 0),
                            ([["a", "b"], ["a"]], 1), ([["a", "b", "c"]], 0), (["ab"], 0), ([{"a": "b"}], 0),
                            ([("a", "b"), ("b", "c"), ("c", "x")], 2), ([["a", 1]], 0), ([[]], 0),
                            ([("a", "c"), ["a", ["b"]], ["c", "a"]], 1), ([["a", None]], 0), ([[W, "a"]], 0)]:
            raises_with(self, BadTies, {"index": index}, Board, ["a", "b", "c"], ties, [])
            raises_with(self, BadTies, {"index": index}, Board, ["a", "b", "c"], tuple(ties), [])

    def test_bad_rim(self):
        for rim, index in [(["a", "a"], 1), (["x"], 0), (["a", "b", "x", "a"], 2), ([["a"]], 0), ([True], 0),
                           (["a", None], 1), (["c", "b", "a", "c"], 3), ([{}], 0), ([W], 0), ([""], 0)]:
            raises_with(self, BadRim, {"index": index}, Board, ["a", "b", "c"], [], rim)

    def test_no_lists(self):
        for thing in NO_LISTS:
            raises_with(self, BadPlaces, {"index": 0}, Board, thing, [], [])
            raises_with(self, BadTies, {"index": 0}, Board, ["a"], thing, [])
            raises_with(self, BadRim, {"index": 0}, Board, ["a"], [], thing)

    def test_any_object(self):
        for thing in odd_things():
            raises_with(self, BadTies, {"index": 1}, Board, ["a", "b"], [("a", "b"), thing], [])
            raises_with(self, BadRim, {"index": 1}, Board, ["a", "b"], [], ["a", thing])

    def test_order_of_errors(self):
        raises_with(self, BadPlaces, {"index": 1}, Board, ["a", "a"], [1], [1])
        raises_with(self, BadPlaces, {"index": 0}, Board, None, None, None)
        raises_with(self, BadTies, {"index": 0}, Board, ["a"], [1], [1])
        raises_with(self, BadRim, {"index": 0}, Board, ["a"], [], [1])

    def test_by_name(self):
        self.assertEqual(Board(rim=["a"], ties=[], places=["a"]).rim(), ["a"])
        self.assertEqual(F.ties_of(place="v"), ["u", "x"])

    def test_no_place(self):
        for thing in no_places():
            raises_thing(self, NoPlace, thing, F.ties_of, thing)
            raises_thing(self, NoPlace, thing, EMPTY.ties_of, thing)
        raises_thing(self, NoPlace, "u", W.ties_of, "u")

    def test_equal(self):
        again = Board(list("xvudcba"), [tie[::-1] for tie in F.ties()][::-1], list("abcd"))
        self.assertTrue(again == F)
        self.assertFalse(again != F)
        self.assertTrue(EMPTY == Board([], [], []))

    def test_unequal(self):
        for other in [board("a b c d u v x y", "a u, a x, b u, b x, c x, d x, u v, v x", "a b c d"),
                      board("a b c d u v x", "a u, a x, b u, b x, c x, d x, u v", "a b c d"),
                      board("a b c d u v x", "a u, a x, b u, b x, c x, d x, u v, v x", "b c d a"),
                      board("a b c d u v x", "a u, a x, b u, b x, c x, d x, u v, v x", "a b c"), N]:
            self.assertFalse(F == other)
            self.assertTrue(F != other)

    def test_equal_to_nothing_else(self):
        for thing in [*no_boards(), (F.places(), F.ties(), F.rim()), Notice(F, [])]:
            self.assertFalse(F == thing)
            self.assertFalse(EMPTY == thing)
            self.assertTrue(F != thing)

    def test_told_new(self):
        for call in [F.places, F.ties, F.rim, lambda: F.ties_of("x")]:
            told_new(self, call)
        self.assertIsNot(F.places(), F.places())

    def test_passed_is_copied_and_unchanged(self):
        places, ties, rim = ["c", "b", "a"], [["c", "b"], ["b", "a"]], ["b", "a"]
        ahead = frozen([places, ties, rim])
        made = Board(places, ties, rim)
        self.assertEqual(frozen([places, ties, rim]), ahead)
        ties[0][0] = "a"
        ties[1].clear()
        for thing in [places, ties, rim]:
            thing.clear()
        self.assertEqual(made.places(), ["a", "b", "c"])
        self.assertEqual(made.ties(), [("a", "b"), ("b", "c")])
        self.assertEqual(made.rim(), ["b", "a"])
        self.assertEqual(made.ties_of("b"), ["a", "c"])

    def test_examples(self):
        self.assertEqual(N.ties(), [("a", "x"), ("b", "y"), ("c", "x"), ("d", "y"), ("x", "y")])
        self.assertEqual(F.ties_of("x"), ["a", "b", "c", "d", "v"])
        self.assertEqual(Z.ties(), [("p", "q")])
        self.assertEqual(W.places(), ["a", "b", "c", "d", "x"])


if __name__ == "__main__":
    unittest.main()

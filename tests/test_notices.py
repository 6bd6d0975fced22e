"""Point 9: notices."""

import unittest

from mustcross.errors import BadBoard, BadNotice, BadWishes
from mustcross.notices import Notice
from mustcross.noticetexts import notice_text
from support import (EMPTY, F, N, W, Z, frozen, no_boards, odd_things, raises_thing, raises_with,
                     told_new, tupled)


class NoticeTest(unittest.TestCase):
    def test_told(self):
        made = Notice(F, [[["x", "b"], ["d", "a"]], (("u", "v"), ("x", "a")), (("c", "d"), ["b", "a"])])
        self.assertEqual(made.wishes(), [(("a", "d"), ("b", "x")), (("a", "x"), ("u", "v")),
                                         (("a", "b"), ("c", "d"))])
        self.assertTrue(made.board() == F)

    def test_kinds_of_what_is_told(self):
        told = Notice(F, ([["x", "b"], ["d", "a"]],)).wishes()
        self.assertIs(told.__class__, list)
        self.assertEqual(told, [tupled(told[0])])
        self.assertEqual(repr(told), "[(('a', 'd'), ('b', 'x'))]")

    def test_no_wishes(self):
        self.assertEqual(Notice(EMPTY, []).wishes(), [])
        self.assertEqual(Notice(Z, ()).wishes(), [])

    def test_same_places_in_other_pairs_are_unlike(self):
        wishes = [(("a", "b"), ("c", "d")), (("a", "c"), ("b", "d")), (("a", "d"), ("b", "c"))]
        self.assertEqual(Notice(W, wishes).wishes(), wishes)

    def test_bad_wishes(self):
        good = (("a", "b"), ("c", "d"))
        for wishes, index in [([good, good], 1), ([good, (("c", "d"), ("a", "b"))], 1),
                              ([good, (("d", "c"), ("b", "a"))], 1), ([(("a", "b"), ("b", "d"))], 0),
                              ([(("a", "a"), ("c", "d"))], 0), ([(("a", "b"), ("c", "u"))], 0),
                              ([good, ("a", "b", "c", "d")], 1), ([(("a", "b"),)], 0), (["abcd"], 0),
                              ([("ab", "cd")], 0), ([(("a", "b"), ("c", "d"), ("a", "x"))], 0),
                              ([(("a", "b", "x"), ("c", "d"))], 0), ([good, (("a", "b"), ("c", 1))], 1),
                              ([(("a", "b"), ("c", ["d"]))], 0), ([(("a", "b"), {"c": 1, "d": 2})], 0),
                              ([good, (("a", "b"), ("c", "x")), 0, good], 2), ([(("a", W), ("c", "d"))], 0)]:
            raises_with(self, BadWishes, {"index": index}, Notice, W, wishes)
            raises_with(self, BadWishes, {"index": index}, Notice, W, tuple(wishes))

    def test_no_list(self):
        for thing in [None, False, 0, "", "abcd", {}, len, W, Notice(W, [])]:
            raises_with(self, BadWishes, {"index": 0}, Notice, W, thing)

    def test_any_object_is_no_wish(self):
        for thing in odd_things():
            raises_with(self, BadWishes, {"index": 1}, Notice, W, [(("a", "b"), ("c", "d")), thing])

    def test_bad_board_comes_first(self):
        for thing in no_boards():
            raises_thing(self, BadBoard, thing, Notice, thing, None)
            raises_thing(self, BadBoard, thing, Notice, thing, [])

    def test_bad_notice(self):
        for thing in [*odd_things(), F, [Notice(F, [])], (F, [])]:
            raises_thing(self, BadNotice, thing, notice_text, thing)

    def test_by_name(self):
        self.assertEqual(Notice(wishes=[], board=N).board(), N)

    def test_equal(self):
        one = Notice(F, [(("a", "b"), ("c", "d")), (("a", "u"), ("c", "d"))])
        self.assertTrue(one == Notice(F, [[["d", "c"], ["b", "a"]], [["u", "a"], ["c", "d"]]]))
        self.assertFalse(one != Notice(F, [[["d", "c"], ["b", "a"]], [["u", "a"], ["c", "d"]]]))
        for other in [Notice(F, []), Notice(F, one.wishes()[::-1]), Notice(F, one.wishes()[:1]),
                      Notice(N, []), F, one.wishes(), (F, one.wishes()), None]:
            self.assertFalse(one == other)
            self.assertTrue(one != other)
        self.assertFalse(Notice(F, []) == Notice(N, []))
        for thing in odd_things():
            self.assertFalse(one == thing)

    def test_told_new(self):
        told_new(self, Notice(F, [(("a", "b"), ("c", "d")), (("a", "u"), ("c", "d"))]).wishes)

    def test_passed_is_copied_and_unchanged(self):
        wishes = [[["x", "b"], ["d", "a"]], [["u", "v"], ["x", "a"]]]
        ahead = frozen(wishes)
        made = Notice(F, wishes)
        self.assertEqual(frozen(wishes), ahead)
        wishes[0][0][0] = "c"
        wishes.pop()
        self.assertEqual(made.wishes(), [(("a", "d"), ("b", "x")), (("a", "x"), ("u", "v"))])

    def test_sixteen_wishes(self):
        pairs = [(one, other) for one in "abcd" for other in "uvx"]
        wishes = [(one, two) for one in pairs for two in pairs if one < two and not set(one) & set(two)]
        self.assertEqual(Notice(F, wishes[:16]).wishes(), wishes[:16])


if __name__ == "__main__":
    unittest.main()

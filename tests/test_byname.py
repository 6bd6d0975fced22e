"""Points 2, 3 and 5: every function and method called by the names of its parameters; what it tells is new each time."""

import importlib
import inspect
import unittest

from mustcross.boards import Board
from mustcross.crosses import cross
from mustcross.drawings import drawing
from mustcross.laying import laid
from mustcross.notices import Notice
from mustcross.pictures import picture
from mustcross.sessions import Session
from mustcross.whynot import why_not
from sessionmodel import APART, session_of
from support import F, N, P, W, board, frozen, told_new, tupled
from test_form import CLASSES, INTERFACE

A = board("a b p q", "a p, b q", "p q a b")
B = board("c d p q", "c p, d q", "q p c d")
RING = board("a b c d", "a b, b c, c d, a d", "a c b d")
WX = board("a b c d x", "a c, a x, b x, c x, d x", "a b c d")
THREE = board("a b c x", "a x, b x, c x", "a b c")
TEXT = "place a\nplace b\nplace c\nplace d\nrim b, a\napart a b, c d\n"
WISHED = Notice(N, [(("a", "c"), ("b", "d")), (("a", "b"), ("c", "d"))])
SOME, OTHERS = ["a", "b"], ["d", "e"]
WAYS = [["b", "c", "d"]]
STEPS = [["tie", "a", "x"], ["tie", "c", "x"], ["draw", "b", "x"]]
CODE = [["a", "b", "c"], ["d"]]
PAIRS = [["a", "b"], ["c", "d"]]
HARD = [["a", "d"], ["b", "c"]]
BAR = ["lots", [["x"], ["y"], ["a"], ["b"], ["c"]]]
K23 = board("a b c x y", "a x, a y, b x, b y, c x, c y")
ONE, TWO = ["a", "c"], ["b", "d"]
Q = board("a b c d e", "a c, b c, c d, d e, b e")

CALLS = {
    "notice_text": [(WISHED,)], "read_notice": [(TEXT,)], "notice_fault": [("rim b",), (TEXT,)],
    "notice_goes_on": [("pl",)],
    "answer_text": [(["cross", ["a", "x", "c"], ["b", "y"]],)], "read_answer": [("fold p, q\nat a: c, b\n",)],
    "answer_fault": [("fold p, q behind p",)],
    "way_fault": [(F, ["a", "b"]), (F, ["a", "u"])],
    "ways_apart": [(Q, SOME, OTHERS)], "apart_fault": [(Q, SOME, OTHERS, WAYS), (Q, SOME, OTHERS, [["a"]])],
    "one_more": [(Q, SOME, OTHERS, WAYS)],
    "parting": [(P, SOME, ["e"])], "is_parting": [(P, SOME, ["e"], ["c"])], "parts_how": [(P, SOME, ["e"], "c")],
    "count_partings": [(P, SOME, ["e"])], "parting_at": [(P, SOME, ["e"], 1)],
    "fan": [(Q, "c", ["a", "b", "e"])], "fan_parting": [(Q, "c", ["a", "b", "e"])],
    "must_pass": [(P, SOME, ["e"])],
    "feet": [(F, ["u", "v"])], "is_piece": [(F, ["u", "v"])], "least_feet": [(F, "u")],
    "piece_with": [(F, "u", 3)], "ways_out": [(F, "u", 3)],
    "least_piece": [(F, "u")], "greatest_piece": [(F, "u")],
    "folded": [(F, ["v"])], "fold_row": [(F,)], "thinned": [(F,)],
    "led_in": [(F, ["v"], [["a", "u", "v", "x"]])], "led_out": [(F, ["v"], [["a", "u", "x"]])],
    "cross": [(N,), (F,)], "is_cross": [(N, [["a", "x", "c"], ["b", "y", "d"]])],
    "picture": [(F,), (W,)], "picture_fault": [(W, [[], {}])], "is_picture": [(W, list(picture(W)))],
    "has_cross": [(N,)], "thinned_to_cross": [(N,)],
    "drawing": [(W,)], "drawing_fault": [(W, {})], "faces": [(W, drawing(W))],
    "share_face": [(W, drawing(W), "a", "b")], "mirrored": [(W, drawing(W))],
    "bar": [(N,)], "bar_fault": [(N, ["five", [], []])], "cross_bar": [(N, [["c", "x", "a"], ["b", "y", "d"]])],
    "laying_fault": [(W, laid(W)), (W, {})], "laid": [(W,)], "read_off": [(W, laid(W))],
    "two_joined": [(N, ["a", "x"], ["d", "b"])], "two_board": [(N, ["a", "x"], ["d", "b"])],
    "two_picture": [(W, ["a", "c"], ["b", "d"])], "pairings": [(N,)], "calm_pins": [(F,)],
    "joined": [(F, PAIRS)], "join_paper": [(F, HARD), (F, [ONE, TWO])],
    "is_joined": [(F, PAIRS, [["a", "u", "b"], ["c", "x", "d"]])],
    "is_join_paper": [(F, HARD, ["parts", "a", "b", ["x"]])],
    "is_round": [(F, ["u", "v", "x", "a"])], "round_through": [(F, ["a", "v"])],
    "round_bar": [(K23, ["a", "b", "c"])], "is_round_bar": [(K23, ["a", "b", "c"], BAR)],
    "put_between": [(F, "a", "c", "z")], "put_on": [(F, "a", "u", "z")], "way_through": [(K23, "a", "b", ["c"])],
    "way_over": [(RING, "a", "d", "b", "c")], "round_over": [(RING, "a", "b", "c", "d")],
    "with_tie": [(W, "a", "c")], "without_tie": [(W, "a", "x")], "without": [(W, "x")],
    "drawn_together": [(W, "a", "x")], "begins": [(W, "a", "c")], "let_ties": [(W,)],
    "is_full": [(W,)], "filled": [(W,)], "most_ties": [(4, 1), (1, 4)],
    "needed_ties": [(WX,)], "needed_places": [(WX,)], "least_new": [(W,)],
    "led_down": [(WX,)], "is_led_down": [(WX, STEPS)],
    "count": [(F, "b", "c")], "least_lot": [(F, "b", "c")], "counts": [(F,)],
    "code": [(F,)], "is_code": [(["d", "a", "b", "c"], CODE)], "count_by": [(["d", "a", "b", "c"], CODE, "a", "b")],
    "board_for": [(["d", "a", "b", "c"], CODE)], "count_codes": [(5,)], "all_codes": [(["b", "a", "c"],)],
    "table_fault": [([[1, 0, 1]] * 4,)], "code_of": [(["b", "a"], [[1], [1]])],
    "alike": [(F, W)], "parting_pairs": [(F, W)], "are_parting": [(F, W, PAIRS)], "is_better": [(F, W), (W, F)],
    "better_paper": [(W, F)],
    "common_stretch": [(A, B)], "beside": [(A, B)], "ways_on": [(B, A)],
    "held_back": [(board("p q z", "p z, q z", "p q z"), board("p q a", "", "q p a"))],
    "led_on": [(B, A, [["p", "a"], ["q", "b"]])],
    "within": [(THREE, "x", board("a b c y", "a y, b y", "b a c"))],
    "answers_for": [(WISHED,)], "audit": [(TEXT, []), ("rim\n", [""])],
    "refusal": [(WISHED, ["none", "none", "apart"]), (WISHED, ["cross", "apart", "apart"])],
    "is_refusal": [(WISHED, ["none", "none", "none"], [0, ["cross", *cross(N)]])],
    "why_not": [(W, ONE, TWO), (board("a b c d", "a b, b c, c d, a d"), ONE, TWO)],
    "is_why_not": [(W, ONE, TWO, ["place", "x"])],
    "write_session": [(session_of(F, [("cross",)], [APART]),)], "read_session": [("place a\nrim a\nhold ring a\n",)],
}
METHODS = {"ties_of": ("a",), "do": (["watch", ["ring", "d"]],), "is_question": (["ring", "a"],),
           "answer": (["ring", "a"],), "would": (["cut", "x", "a"],), "at": (3,), "trial": (Session.deeds,),
           "do ": (("off", "d"),)}


def functions():
    """All functions of the interface."""
    for file, rows in INTERFACE.items():
        for row in rows:
            yield getattr(importlib.import_module("mustcross." + file), row.split("(")[0])


def by_name(function, things):
    """What a function tells if it is called by the names of its parameters, the last one first."""
    names = list(inspect.signature(function).parameters)
    return function(**dict(list(zip(names, things))[::-1]))


def told(thing):
    """What is told, so that it can be compared at all depths."""
    return frozen(thing)


class ByNameTest(unittest.TestCase):
    def test_all_functions_are_called(self):
        self.assertEqual({function.__name__ for function in functions()}, set(CALLS))

    def test_functions_by_name(self):
        for function in functions():
            for things in CALLS[function.__name__]:
                self.assertEqual(told(by_name(function, things)), told(function(*things)), function.__name__)

    def test_classes_by_name(self):
        self.assertEqual(Board(rim=["b"], ties=[("b", "a")], places=["a", "b"]), board("a b", "a b", "b"))
        self.assertEqual(Notice(wishes=[], board=F), Notice(F, []))
        session = session_of(W, [("ring", "a")])
        for word, things in METHODS.items():
            for made in (W, session):
                method = getattr(made.copy() if made is session else made, word.strip(), None)
                if method is not None:
                    other = getattr(made.copy() if made is session else made, word.strip())
                    self.assertEqual(told(by_name(method, things)), told(other(*things)), word)

    def test_methods_with_parameters_are_all_there(self):
        there = {name for _, _, methods in CLASSES.values() for name, shape in methods.items()
                 if shape != "(self)" and name != "__eq__"}
        self.assertEqual(there, {word.strip() for word in METHODS})


class ToldTest(unittest.TestCase):
    def test_told_new_and_in_one_place_each(self):
        for function in functions():
            for things in CALLS[function.__name__]:
                told_new(self, lambda: function(*things))

    def test_what_is_passed_stays(self):
        for function in functions():
            for things in CALLS[function.__name__]:
                ahead = frozen(things)
                function(*things)
                self.assertEqual(frozen(things), ahead, function.__name__)

    def test_tuples_for_lists(self):
        for function in functions():
            for things in CALLS[function.__name__]:
                again = [{one: tupled(row) for one, row in thing.items()} if isinstance(thing, dict) else tupled(thing)
                         for thing in things]
                self.assertEqual(told(function(*again)), told(function(*things)), function.__name__)

    def test_boards_are_kept_as_they_are(self):
        rows = [[place for of in (A, B, F, N, W, Q, RING, K23, WX, THREE) for place in (of.places(), of.ties(), of.rim())]]
        for function in functions():
            for things in CALLS[function.__name__]:
                function(*things)
        rows.append([place for of in (A, B, F, N, W, Q, RING, K23, WX, THREE)
                     for place in (of.places(), of.ties(), of.rim())])
        self.assertEqual(*rows)
        self.assertEqual(why_not(W, ONE, TWO), ("place", "x"))


if __name__ == "__main__":
    unittest.main()

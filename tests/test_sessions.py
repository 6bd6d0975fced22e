"""Points 88 to 94 and 96: sessions."""

import unittest
from itertools import combinations
from random import Random

from byhand import crosses_by_hand, pinned_boards
from mustcross import errors
from mustcross.boards import Board
from mustcross.errors import (BadDeed, BadName, BadPlace, BadQuestion, HasTie, InUse, IsWatched, NoCount, NoPin, NoTie,
                              NotWatched, WouldChange)
from mustcross.sessions import Session
from sessionmodel import (APART, Model, answer_by_hand, deeds_for, is_question_by_hand, is_why_by_hand, session_of,
                          shown, some_question)
from support import (EMPTY, F, N, W, Z, boxes, no_numbers, odd_things, raised, raises_thing, raises_with, small_boards,
                     told_new)

def some_deed(session, chance, most=6):
    """A deed, or nearly one."""
    of = session.now()
    names = of.places() + [name for name in "abcdefg"[:most] if not chance.randrange(3)] or ["a"]
    word = chance.choice(["place", "tie", "tie", "tie", "tie", "cut", "cut", "cut", "pin", "off", "leave", "watch",
                          "hold", "hold", "free"])
    if word == "place":
        return ("place", chance.choice("abcdefg"[:most]))
    if word in ("leave", "off"):
        return (word, chance.choice(names))
    if word in ("tie", "cut"):
        return (word, chance.choice(names), chance.choice(names))
    if word == "pin":
        if len(of.rim()) > 3 and chance.randrange(3):
            return ("off", chance.choice(names))
        return ("pin", chance.choice(names), chance.randrange(-1, len(of.rim()) + 2))
    watched = [question for question, _, _ in session.watched()]
    if watched and (word == "free" or len(watched) > 5) and chance.randrange(5):
        return ("free" if chance.randrange(3) else word, chance.choice(watched))
    return (word, some_question(of, chance))


class RandomTest(unittest.TestCase):
    def same(self, session, model):
        """The session tells of itself what the one by hand does."""
        self.assertEqual(session.now(), model.board)
        due = [(question, answer_by_hand(model.board, question), held) for question, held in model.watched]
        self.assertEqual(session.watched(), due)
        self.assertEqual(session.count(), len(model.past))
        self.assertEqual(session.deeds(), [deed for deed, _ in model.past])

    def refused(self, call, deed, name, told):
        """A deed is refused by the very error that is due."""
        with self.assertRaises(getattr(errors, name)) as caught:
            call(deed)
        self.assertEqual(vars(caught.exception), told)

    def step(self, session, model, deed, seen):
        """One deed, or what is refused of it."""
        ahead = shown(session)
        due = model.would(deed)
        if isinstance(due, tuple):
            for call in (session.would, session.do):
                self.refused(call, deed, *due)
            seen[due[0]] = seen.get(due[0], 0) + 1
            self.assertEqual(shown(session), ahead)
            return
        self.assertEqual(session.would(deed), due)
        self.assertEqual(shown(session), ahead)
        change = model.would_change(deed)
        if change is not None:
            error = raised(self, WouldChange, session.do, deed)
            self.assertEqual(error.question, change[0])
            self.assertTrue(is_why_by_hand(model.behind(deed)[0], *change, error.why), (change, error.why))
            kind = change[0][0], change[2] if change[2] in (True, False) else None
            seen[kind] = seen.get(kind, 0) + 1
            self.assertEqual(shown(session), ahead)
            return
        self.assertEqual(session.do(deed), due)
        model.do(deed)
        seen["done"] = seen.get("done", 0) + 1
        seen["changes"] = seen.get("changes", 0) + len(due)

    def test_some_sessions(self):
        seen = {}
        boards = pinned_boards(60, 6, 275)
        for seed in range(90):
            chance = Random(seed)
            session, model = Session(), Model()
            for deed in deeds_for(boards[seed]) if seed < len(boards) else []:
                self.step(session, model, deed, seen)
            for _ in range(60):
                go = chance.randrange(12)
                if go == 0:
                    self.assertEqual(session.undo(), model.undo())
                elif go == 1:
                    self.assertEqual(session.again(), model.again())
                elif go == 2 and chance.randrange(3) == 0:
                    session, model = session.copy(), model.copy()
                else:
                    self.step(session, model, some_deed(session, chance), seen)
                self.same(session, model)
            for number in range(session.count(), -1, -1):
                other = session.at(number)
                while len(model.past) > number:
                    model.undo()
                self.same(other, model)
                self.assertIsNone(other.again())
        self.assertLessEqual({"done", "changes", "BadName", "HasTie", "NoTie", "NoPin", "BadPlace", "BadQuestion",
                              "IsWatched", "NotWatched", "InUse", ("apart", True), ("apart", False), ("joined", True),
                              ("joined", False), ("cross", True), ("cross", False), ("count", None), ("ring", None)},
                             set(seen))

    def test_nine_places_and_fifty_deeds(self):
        for seed in range(3):
            chance = Random(100 + seed)
            session, model = Session(), Model()
            for at, name in enumerate("abcdefghi"):
                self.step(session, model, ["place", name], {})
                if at < 4:
                    self.step(session, model, ["pin", name, at], {})
            seen = {}
            for question in [["cross"], ["apart", *"acbd"], ["joined", *"ai"], ["count", "a", "b"], ["ring", "c"],
                             ["count", "d", "d"]]:
                self.step(session, model, ["hold" if seed == 2 and question[0] == "cross" else "watch", question], seen)
            pairs = list(combinations("abcdefghi", 2))
            while session.count() < 50 and pairs:
                pair = pairs.pop(chance.randrange(len(pairs)))
                if chance.randrange(2):
                    self.step(session, model, ("tie", *pair), seen)
            self.same(session, model)
            self.assertGreater(session.count(), 19 + 10)


class FactsTest(unittest.TestCase):
    def test_what_never_begins_or_ends_a_cross(self):
        for of in [F, N, W, *small_boards(60, 6, 271)]:
            session = session_of(of, [("cross",)])
            there = crosses_by_hand(of)
            for deed in [*[("cut", *tie) for tie in of.ties()], *[("leave", place) for place in of.places()],
                         *[("off", pin) for pin in of.rim()]]:
                self.assertTrue(there or session.would(deed) == [])
            for deed in [("place", "z"), *[("tie", *pair) for pair in combinations(of.places(), 2)
                                           if pair not in of.ties()]]:
                self.assertTrue(not there or session.would(deed) == [])

    def test_a_lone_place_changes_nothing(self):
        for of in [F, N, W, *small_boards(40, 6, 272)]:
            chance = Random(1)
            rows = [some_question(of, chance) for _ in range(30)]
            watched = list(dict.fromkeys(row for row in rows if is_question_by_hand(of, row)))[:6]
            session = session_of(of, watched)
            self.assertEqual(session.do(("place", "z")), [])
            self.assertEqual(session.do(("leave", "z")), [])

    def test_a_tie_lowers_no_count(self):
        for of in [F, N, W, *small_boards(60, 6, 273)]:
            rows = [("count", one, other) for one in of.rim() for other in of.rim()][:6]
            session = session_of(of, rows)
            for pair in combinations(of.places(), 2):
                if pair not in of.ties():
                    for _, ahead, behind in session.would(("tie", *pair)):
                        self.assertEqual(behind, ahead + 1)


class DoTest(unittest.TestCase):
    def test_example(self):
        session = session_of(F, [("cross",), ("count", "a", "a")], [APART])
        self.assertEqual(session.now(), F)
        self.assertEqual(session.do(("cut", "v", "x")), [])
        error = raised(self, WouldChange, session.do, ("tie", "c", "v"))
        self.assertEqual(error.question, APART)
        self.assertEqual(error.why, (["a", "u", "v", "c"], ["b", "x", "d"]))
        session.do(("free", APART))
        self.assertEqual(session.do(("tie", "c", "v")), [(("cross",), False, True)])
        raises_with(self, InUse, {"question": ("count", "a", "a")}, session.do, ("off", "a"))

    def test_begins_with_nothing(self):
        session = Session()
        self.assertEqual(session.now(), EMPTY)
        self.assertEqual((session.watched(), session.count(), session.deeds()), ([], 0, []))
        self.assertIsNone(session.undo())
        self.assertIsNone(session.again())
        self.assertEqual(session.do(("hold", ("cross",))), [])
        self.assertEqual(session.watched(), [(("cross",), False, True)])

    def test_pins(self):
        session = session_of(N)
        for deed, rim in [(("pin", "x", 0), "xabcd"), (("pin", "x", 4), "abcdx"), (("pin", "a", 2), "bcadx"),
                          (("pin", "a", 2), "bcadx"), (("off", "c"), "badx"), (("pin", "y", 4), "badxy"),
                          (("leave", "d"), "baxy")]:
            session.do(deed)
            self.assertEqual(session.now().rim(), list(rim))
        for thing in [*no_numbers(), 4, 5, 10 ** 12]:
            raises_thing(self, BadPlace, thing, session.do, ("pin", "y", thing))
        raises_thing(self, BadPlace, 5, session.would, ("pin", "c", 5))

    def test_hold_in_its_place(self):
        session = session_of(W, [("cross",), ("count", "a", "b"), ("ring", "a")])
        session.do(["hold", ["count", "a", "b"]])
        session.do(("hold", ("joined", "a", "b")))
        self.assertEqual([(question[0], held) for question, _, held in session.watched()],
                         [("cross", False), ("count", True), ("ring", False), ("joined", True)])
        session.do(("free", ["count", "a", "b"]))
        session.do(("watch", ["count", "a", "b"]))
        self.assertEqual([question[0] for question, _, _ in session.watched()], ["cross", "ring", "joined", "count"])
        for deed in [("watch", ("cross",)), ["hold", ["joined", "a", "b"]], ("watch", ["ring", "a"])]:
            raises_with(self, IsWatched, {"question": tuple(deed[1])}, session.do, deed)
        for question in [["joined", "b", "a"], ("count", "b", "a"), ["apart", "a", "b", "c", "d"]]:
            raises_with(self, NotWatched, {"question": tuple(question)}, session.do, ("free", question))

    def test_unlike_tuples_are_unlike_questions(self):
        session = session_of(W, [("joined", "a", "b"), ("joined", "b", "a"), APART, ("apart", "c", "a", "b", "d")])
        self.assertEqual(len(session.watched()), 4)

    def test_why_of_each_kind(self):
        session = session_of(W, [], [("cross",), ("joined", "a", "c"), ("count", "a", "b"), ("ring", "d")])
        error = raised(self, WouldChange, session.do, ("tie", "a", "c"))
        self.assertEqual((error.question, error.why), (("cross",), (["a", "c"], ["b", "x", "d"])))
        error = raised(self, WouldChange, session.do, ("cut", "x", "a"))
        self.assertEqual((error.question, error.why), (("joined", "a", "c"), ["a"]))
        error = raised(self, WouldChange, session.do, ("cut", "d", "x"))
        self.assertEqual((error.question, error.why), (("ring", "d"), (["a", "b", "c", "d"], ["d"])))
        error = raised(self, WouldChange, session.do, ("tie", "b", "c"))
        self.assertEqual((error.question, error.why), (("count", "a", "b"), (1, 2)))
        crossed = session_of(N, [], [("cross",), APART])
        error = raised(self, WouldChange, crossed.do, ("cut", "a", "x"))
        self.assertTrue(is_why_by_hand(Board(N.places(), N.ties()[1:], N.rim()), ("cross",), True, False, error.why))
        parts = session_of(Z, [], [("joined", "p", "q")])
        error = raised(self, WouldChange, parts.do, ("cut", "q", "p"))
        self.assertEqual(error.why, ["p"])
        split = session_of(Board(list("abc"), [], []), [], [("joined", "a", "b")])
        self.assertEqual(raised(self, WouldChange, split.do, ("tie", "b", "a")).why, ["a", "b"])

    def test_all_pins_have_no_count(self):
        session = session_of(W, [("count", "b", "a")])
        self.assertEqual(session.watched(), [(("count", "b", "a"), None, False)])
        self.assertEqual(session.do(("pin", "x", 0)), [])
        self.assertEqual(session.do(("pin", "x", 1)), [(("count", "b", "a"), None, 1)])
        self.assertIsNone(session_of(Board(["p"], [], ["p"])).answer(("count", "p", "p")))

    def test_deeds_are_done_whole_or_not_at_all(self):
        session = session_of(W, [], [("cross",)])
        ahead = shown(session)
        for deed in [("leave", "q"), ("tie", "a", "c"), ("tie", "a", "x"), ("place", "a"), ("pin", "a", 4), ("off", "x")]:
            raised(self, error_of(session, deed), session.do, deed)
            self.assertEqual(shown(session), ahead)


def error_of(session, deed):
    """The very class of the error that a deed raises."""
    try:
        session.copy().do(deed)
    except ValueError as error:
        return error.__class__
    return None


class WrongTest(unittest.TestCase):
    def setUp(self):
        self.session = session_of(N, [("cross",), ("ring", "a")], [APART])

    def wrong(self, error, told, deed):
        for call in (self.session.do, self.session.would):
            raises_with(self, error, told, call, deed)

    def wrong_thing(self, error, thing, deed):
        for call in (self.session.do, self.session.would):
            raises_thing(self, error, thing, call, deed)

    def test_bad_deeds(self):
        for thing in [*odd_things(), "place", ("place",), ("place", "q", "r"), ("leave",), ("tie", "a"),
                      ("tie", "a", "b", "c"), ("pin", "a"), ("pin", "a", 0, 0), ("off", "a", "b"), ("watch",),
                      ("watch", "cross", "a"), ("hold", APART, 1), ("free",), ("Place", "q"), ("undo",), (None, "q"),
                      (["place"], "q"), {"place": "q"}, ("cut",), ("cut", ("a", "x")), (1, 2), (N, N)]:
            self.wrong_thing(BadDeed, thing, thing)

    def test_bad_names(self):
        for thing in [*odd_things(), "a", "x", "A", "ninesigns", "at", "watch", "1a", "a b", N, ["q"]]:
            if thing != "zz":
                self.wrong_thing(BadName, thing, ("place", thing))
        for thing in [*odd_things(), "q", ["a"], N, "a "]:
            for deed in [("leave", thing), ("tie", thing, None), ("tie", "a", thing), ("cut", thing, thing),
                         ("cut", "a", thing), ("pin", thing, None), ("off", thing)]:
                self.wrong_thing(BadName, thing, deed)

    def test_ties_and_pins(self):
        for one, other in [("a", "a"), ("a", "x"), ("x", "a"), ("y", "x")]:
            self.wrong(HasTie, {"one": one, "other": other}, ("tie", one, other))
        for one, other in [("a", "a"), ("a", "y"), ("b", "x")]:
            self.wrong(NoTie, {"one": one, "other": other}, ["cut", one, other])
        for name in "xy":
            self.wrong(NoPin, {"thing": name}, ("off", name))
        for at in [-1, 4, 5, True, None, "0"]:
            self.wrong_thing(BadPlace, at, ("pin", "a", at))
        for at in [-1, 5, False, [0]]:
            self.wrong_thing(BadPlace, at, ("pin", "x", at))

    def test_questions(self):
        for word in ("watch", "hold", "free"):
            for thing in [*odd_things(), "cross", ("cross", "a"), ("apart", "a", "b", "c"), ("apart", "a", "b", "c", "a"),
                          ("apart", "a", "b", "c", "q"), ("joined", "a", "a"), ("joined", "a"), ("joined", "a", None),
                          ("count", "a", "x"), ("count", "x", "a"), ("count", "a"), ("ring", "x"), ("ring", "a", "b"),
                          ("ring", ["a"]), ("ring",), ("Cross",), (["cross"],), {"cross": 1}, (None,), ("count", "a", 0)]:
                self.wrong_thing(BadQuestion, thing, (word, thing))
                self.assertIs(self.session.is_question(thing), False, thing)
                raises_thing(self, BadQuestion, thing, self.session.answer, thing)
        self.wrong(IsWatched, {"question": ("cross",)}, ("watch", ["cross"]))
        self.wrong(IsWatched, {"question": APART}, ["watch", list(APART)])
        self.wrong(IsWatched, {"question": APART}, ["hold", list(APART)])
        self.wrong(NotWatched, {"question": ("ring", "b")}, ["free", ["ring", "b"]])
        for question in [("cross",), ["cross"], APART, list(APART), ("joined", "x", "d"), ["count", "a", "a"],
                         ("count", "b", "a"), ("ring", "d")]:
            self.assertIs(self.session.is_question(question), True)

    def test_in_use_is_ahead_of_would_change(self):
        self.wrong(InUse, {"question": ("ring", "a")}, ("off", "a"))
        self.wrong(InUse, {"question": ("ring", "a")}, ("leave", "a"))
        self.wrong(InUse, {"question": APART}, ("leave", "c"))
        error = raised(self, WouldChange, self.session.do, ("cut", "a", "x"))
        self.assertEqual(error.question, APART)
        self.assertEqual([row[0] for row in self.session.would(("cut", "a", "x"))], [("cross",), ("ring", "a"), APART])

    def test_first_watched_and_first_held(self):
        session = session_of(N, [("joined", "a", "y"), ("count", "a", "b"), ("cross",)])
        raises_with(self, InUse, {"question": ("joined", "a", "y")}, session.do, ("leave", "a"))
        raises_with(self, InUse, {"question": ("count", "a", "b")}, session.do, ("leave", "b"))
        session.do(("hold", APART))
        session.do(("hold", ("cross",)))
        self.assertEqual(raised(self, WouldChange, session.do, ("cut", "x", "c")).question, ("cross",))


class AheadAndBackTest(unittest.TestCase):
    def test_what_is_refused_leaves_what_can_be_done_again(self):
        session = session_of(N, [], [("cross",)])
        self.assertEqual(session.undo(), ("hold", ("cross",)))
        self.assertEqual(session.undo(), ("pin", "d", 3))
        for deed in [("tie", "a", "x"), None, ("free", ("cross",)), ("place", "a")]:
            raised(self, error_of(session, deed), session.do, deed)
        session.would(("tie", "a", "b"))
        self.assertEqual(session.again(), ("pin", "d", 3))
        self.assertEqual(session.again(), ("hold", ("cross",)))
        self.assertIsNone(session.again())
        raised(self, WouldChange, session.do, ("cut", "a", "x"))

    def test_states_that_were_whatever_is_held(self):
        session = session_of(N)
        session.do(("hold", ("cross",)))
        for _ in range(5):
            session.undo()
        self.assertEqual(session.now().rim(), [])
        self.assertEqual(session.watched(), [])
        for _ in range(5):
            session.again()
        self.assertEqual(session.watched(), [(("cross",), True, True)])
        session.do(("free", ("cross",)))
        session.do(("cut", "a", "x"))
        session.do(("hold", ("cross",)))
        for _ in range(3):
            session.undo()
        self.assertEqual(session.watched(), [(("cross",), True, True)])

    def test_a_deed_done_ends_what_can_be_done_again(self):
        session = session_of(W)
        session.undo()
        self.assertEqual(session.do(("place", "z")), [])
        self.assertIsNone(session.again())
        self.assertEqual(session.deeds()[-1], ("place", "z"))

    def test_deeds_are_told_as_tuples(self):
        session = Session()
        question = ["joined", "a", "b"]
        for deed in [["place", "a"], ["place", "b"], ["tie", "b", "a"], ["pin", "b", 0], ["watch", question],
                     ["hold", question], ["free", question], ["cut", "a", "b"], ["off", "b"], ["leave", "a"]]:
            session.do(deed)
        told = ("joined", "a", "b")
        self.assertEqual(session.deeds(), [("place", "a"), ("place", "b"), ("tie", "b", "a"), ("pin", "b", 0),
                                           ("watch", told), ("hold", told), ("free", told), ("cut", "a", "b"),
                                           ("off", "b"), ("leave", "a")])
        self.assertEqual(session.undo(), ("leave", "a"))
        self.assertEqual([session.undo() for _ in range(3)], [("off", "b"), ("cut", "a", "b"), ("free", told)])
        self.assertEqual(session.again(), ("free", told))

    def test_what_was_passed_and_told_may_be_changed(self):
        session = session_of(W)
        deed, question = ["tie", "a", "b"], ["ring", "a"]
        session.do(deed)
        session.do(["watch", question])
        ahead = shown(session)
        deed[1] = "d"
        question[1] = "b"
        for box in boxes([session.watched(), session.deeds(), session.would(("tie", "b", "c")),
                          session.answer(("ring", "a")), session.now().places(), session.now().rim()]):
            box.clear()
        self.assertEqual(shown(session), ahead)

    def test_copies_go_on_by_themselves(self):
        session = session_of(N, [("cross",)])
        session.undo()
        other = session.copy()
        self.assertEqual(shown(other), shown(session))
        ahead = shown(session)
        other.again()
        other.do(("cut", "a", "x"))
        self.assertEqual(shown(session), ahead)
        self.assertEqual(session.again(), ("watch", ("cross",)))
        self.assertEqual(other.count(), session.count() + 1)

    def test_at(self):
        session = session_of(N, [("cross",)])
        session.undo()
        for number in range(session.count() + 1):
            other = session.at(number)
            self.assertEqual(other.count(), number)
            self.assertEqual(other.deeds(), session.deeds()[:number])
            self.assertIsNone(other.again())
        self.assertEqual(session.at(0), Session())
        self.assertEqual(session.at(6).now(), Board(N.places(), [], []))
        self.assertEqual(session.at(6).undo(), ("place", "y"))
        self.assertEqual(session.again(), ("watch", ("cross",)))
        for thing in [*no_numbers(), session.count() + 1, 10 ** 12]:
            raises_thing(self, NoCount, thing, session.at, thing)

    def test_equal(self):
        one, other = session_of(W, [("cross",), ("ring", "a")]), session_of(W, [("ring", "a"), ("cross",)])
        self.assertNotEqual(one, other)
        for _ in range(2):
            other.undo()
        self.assertNotEqual(one, other)
        other.do(("watch", ["cross"]))
        other.do(("place", "z"))
        other.do(("watch", ["ring", "a"]))
        self.assertNotEqual(one, other)
        other.do(("leave", "z"))
        self.assertEqual(one, other)
        self.assertNotEqual(one.count(), other.count())
        other.do(("hold", ("cross",)))
        self.assertNotEqual(one, other)
        turned = one.copy()
        turned.do(("pin", "a", 1))
        self.assertNotEqual(one, turned)
        for thing in [*odd_things(), W, one.now(), one.watched()]:
            self.assertFalse(one == thing)
            self.assertFalse(thing == one)


class TrialTest(unittest.TestCase):
    def test_puts_all_back(self):
        session = session_of(N, [("cross",)])
        session.undo()
        ahead = shown(session)

        def work(given):
            self.assertIs(given, session)
            given.do(("cut", "a", "x"))
            given.do(("watch", ("ring", "a")))
            given.undo()
            return given.now().ties(), given.count(), given.again()

        self.assertEqual(session.trial(work), (N.ties()[1:], 16, ("watch", ("ring", "a"))))
        self.assertEqual(shown(session), ahead)
        self.assertEqual(session.again(), ("watch", ("cross",)))

    def test_by_an_error_too(self):
        session = session_of(W, [], [("cross",)])
        ahead = shown(session)

        def work(given):
            given.do(("cut", "a", "x"))
            given.do(("tie", "a", "c"))

        def other(given):
            given.undo()
            raise KeyError("a")

        self.assertEqual(session.trial(lambda given: given.do(("tie", "a", "b"))), [])
        raised(self, WouldChange, session.trial, work)
        self.assertEqual(shown(session), ahead)
        raised(self, KeyError, session.trial, other)
        raised(self, WouldChange, session.trial, lambda given: given.do(("tie", "a", "c")))
        self.assertEqual(shown(session), ahead)

    def test_within_one_another(self):
        session = Session()
        depths = []

        def work(given):
            given.do(("place", f"a{len(depths)}"))
            depths.append(given.count())
            if len(depths) < 6:
                given.trial(work)
            self.assertEqual(given.count(), depths.pop())
            return given.now().places()

        self.assertEqual(session.trial(work), ["a0"])
        self.assertEqual(session, Session())
        self.assertEqual(session.count(), 0)
        self.assertIsNone(session.undo())

    def test_what_goes_out_stays(self):
        session = session_of(W)
        out = session.trial(lambda given: (given.do(("place", "z")), given.copy(), given.at(1)))
        self.assertEqual(out[1].now().places(), ["a", "b", "c", "d", "x", "z"])
        self.assertEqual(out[2].now().places(), ["a"])
        out[1].do(("leave", "a"))
        self.assertEqual(session.now(), W)


class ToldTest(unittest.TestCase):
    def test_told_new(self):
        session = session_of(W, [("ring", "a"), ("ring", "b"), ("cross",), ("count", "a", "b")])
        told_new(self, session.watched)
        told_new(self, session.deeds)
        told_new(self, lambda: session.would(("cut", "a", "x")))
        told_new(self, lambda: session.answer(("ring", "a")))
        held = session_of(W, [], [("cross",), ("ring", "a"), ("ring", "b"), APART])
        for deed in [("tie", "a", "c"), ("cut", "a", "x")]:
            told_new(self, lambda: raised(self, WouldChange, held.do, deed).why)
        error = raised(self, WouldChange, held.do, ("cut", "a", "x"))
        error.why[0].clear()
        self.assertEqual(held.answer(("ring", "a")), ["a", "b", "c", "d"])

    def test_answers(self):
        for of in [F, N, W, *small_boards(40, 6, 274)]:
            session = session_of(of)
            chance = Random(5)
            for _ in range(25):
                question = some_question(of, chance)
                due = is_question_by_hand(of, question)
                self.assertIs(session.is_question(question), due)
                if due:
                    self.assertEqual(session.answer(question), answer_by_hand(of, question))
                    self.assertEqual(session.answer(list(question)), answer_by_hand(of, question))


if __name__ == "__main__":
    unittest.main()

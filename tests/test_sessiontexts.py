"""Points 95 and 96: texts of sessions, and their first wrong signs."""

import unittest
from itertools import permutations, product
from random import Random

from mustcross.boards import Board
from mustcross.errors import BadSession, BadText
from mustcross.notices import Notice
from mustcross.noticetexts import notice_text
from mustcross.sessions import Session
from mustcross.sessiontexts import read_session, write_session
from sessionmodel import APART, is_question_by_hand, session_of, shown, some_question
from support import (EMPTY, F, N, W, Z, board, no_boards, odd_things, raises_thing, raises_with, small_boards)
from textoracle import altered, pairs_of_lines, session_fault_by_hand


def all_questions(of):
    """All questions about a board."""
    rows = [("apart", *row) for row in permutations(of.places(), 4)]
    rows += [("joined", *row) for row in permutations(of.places(), 2)]
    rows += [("count", *row) for row in product(of.rim(), repeat=2)]
    return [*rows, *[("ring", pin) for pin in of.rim()], ("cross",)]


def fault_of(text):
    """The line and sign of what read_session raises, None for what it reads."""
    try:
        read_session(text)
    except BadText as error:
        return error.line, error.sign
    return None


class WriteTest(unittest.TestCase):
    def test_example(self):
        session = session_of(F, [("cross",), ("count", "a", "a")], [APART])
        self.assertEqual(write_session(session), notice_text(Notice(F, []))
                         + "watch cross\nwatch count a a\nhold apart a c b d\n")
        self.assertEqual(write_session(Session()), "rim\n")
        kinds = session_of(N, [("ring", "d"), ("joined", "x", "a")], [("cross",)])
        self.assertTrue(write_session(kinds).endswith("rim a, b, c, d\nwatch ring d\nwatch joined x a\nhold cross\n"))

    def test_read_is_equal_with_no_deed_done(self):
        chance = Random(1)
        for of in [EMPTY, Z, F, N, W, *small_boards(60, 9, 281)]:
            rows = [some_question(of, chance) for _ in range(12)]
            rows = list(dict.fromkeys(row for row in rows if is_question_by_hand(of, row)))[:6]
            session = session_of(of, rows)
            for row in rows[::2]:
                session.do(("hold", row))
            text = write_session(session)
            other = read_session(text)
            self.assertEqual(other, session)
            self.assertEqual(other.watched(), session.watched())
            self.assertEqual((other.count(), other.deeds(), other.undo(), other.again()), (0, [], None, None))
            self.assertEqual(write_session(other), text)
            self.assertEqual(shown(other.at(0)), shown(other))

    def test_what_is_read_goes_on(self):
        session = read_session("place b\nplace a\ntie b a\nrim b, a\nhold joined b a\nwatch ring b\n")
        self.assertEqual(session.now(), Board(["a", "b"], [("a", "b")], ["b", "a"]))
        self.assertEqual(session.watched(), [(("joined", "b", "a"), True, True), (("ring", "b"), ["a", "b"], False)])
        session.do(("free", ("joined", "b", "a")))
        self.assertEqual(session.do(("cut", "a", "b")), [(("ring", "b"), ["a", "b"], ["b"])])
        self.assertEqual([session.undo() for _ in range(3)], [("cut", "a", "b"), ("free", ("joined", "b", "a")), None])

    def test_bad_session(self):
        for thing in [*odd_things(), *no_boards(), F, "rim\n"]:
            raises_thing(self, BadSession, thing, write_session, thing)


class FaultTest(unittest.TestCase):
    TEXTS = ["place b\nplace a\ntie b a\nrim a\nwatch ring a\nhold joined b a\n", "rim\nhold cross\n",
             "place a\nrim a\nwatch count a a\nwatch cross\nhold ring a\n",
             "place a1\nplace a\nplace b\nplace c\nrim c, b\nhold apart a a1 b c\nwatch count b c\n"]

    def look(self, text):
        told = fault_of(text)
        self.assertEqual(told, session_fault_by_hand(text), text)
        return told

    def test_texts_near_to_read_ones_and_all_cuts(self):
        seen = set()
        for text in self.TEXTS:
            self.assertIsNone(self.look(text))
            for other in [*altered(text, "a1h, \n"), *pairs_of_lines(text)]:
                seen.add(self.look(other) is None)
        self.assertEqual(seen, {True, False})

    def test_each_question_once(self):
        text = "place a\nrim a\nwatch cross\n"
        self.assertEqual(self.look(text + "hold cross\n"), (4, 7))
        self.assertEqual(self.look(text + "watch ring a\nwatch ring a\n"), (5, 7))
        self.assertEqual(self.look(text + "watch count a a\nhold c"), (5, 6))
        self.assertEqual(self.look(text + "watch count a a\nwatch ring a\nw"), (6, 1))
        self.assertEqual(self.look("rim\nwatch cross\nhold"), (3, 1))
        pair = "place a\nplace b\nrim b, a\n"
        self.assertEqual(self.look(pair + "watch joined a b\nhold joined a"), (5, 13))
        self.assertEqual(self.look(pair + "watch joined a b\nwatch joined b a\nhold j"), (6, 6))
        self.assertEqual(self.look(pair + "watch count a b\nwatch count a a\nwatch count a"), (6, 13))
        self.assertEqual(self.look(pair + "watch a"), (4, 7))
        self.assertEqual(self.look("place a\nplace b\nrim\nwatch c\n"), (4, 8))
        self.assertEqual(self.look("place a\nplace b\nrim\nwatch co"), (4, 8))
        self.assertEqual(self.look("place a\nplace b\nrim\nwatch r"), (4, 7))

    def test_questions_that_run_out(self):
        of = board("a b c d", "", "b d")
        rows = all_questions(of)
        chance = Random(2)
        head = notice_text(Notice(of, []))
        for seed in range(4):
            row = chance.sample(rows, len(rows))
            lines = [f"{chance.choice(['watch', 'hold'])} {' '.join(question)}\n" for question in row]
            self.assertEqual(write_session(read_session(head + "".join(lines))), head + "".join(lines))
            self.assertEqual(self.look(head + "".join(lines) + "w"), (len(lines) + 6, 1))
            for _ in range(6):
                at = chance.randrange(len(lines))
                self.look(head + "".join(lines[:at]) + chance.choice(["watch ", "hold "]) + " ".join(chance.choice(rows)))
        apart = [f"watch {' '.join(question)}\n" for question in rows if question[:2] == ("apart", "c")]
        self.assertEqual(self.look(head + "".join(apart) + "hold apart c"), (len(apart) + 6, 12))
        self.assertEqual(self.look(head + "".join(apart[:-1]) + "hold apart c a"), (len(apart) + 5, 14))

    def test_lines_in_whatever_order_and_none_with_apart(self):
        self.assertIsNone(self.look("place b\nplace a\ntie b a\nplace c\ntie c b\nrim c\n"))
        self.assertEqual(self.look("place a\nplace b\nplace c\nplace d\nrim\napart a b, c d\n"), (6, 1))
        self.assertEqual(self.look("place a\nrim\nplace b\n"), (3, 1))
        self.assertEqual(self.look("place a\nwatch cross\nrim\n"), (2, 1))
        self.assertEqual(self.look("rim\nwatch  cross\n"), (2, 7))
        self.assertEqual(self.look("rim\nwatch cross"), (2, 12))
        self.assertEqual(self.look("rim\nhold"), (2, 5))
        self.assertEqual(self.look(""), (1, 1))

    def test_names_that_are_words_of_questions(self):
        session = session_of(board("ring count", "ring count", "count ring"), [("ring", "ring"), ("count", "count", "ring")],
                             [("joined", "ring", "count")])
        self.assertEqual(read_session(write_session(session)), session)

    def test_any_object(self):
        for thing in odd_things():
            if not isinstance(thing, str):
                raises_with(self, BadText, {"line": 0, "sign": 0}, read_session, thing)
            else:
                self.look(thing)
        raises_with(self, BadText, {"line": 2, "sign": 1}, read_session, "rim\nrim\n")

    def test_nine_places_and_six_questions(self):
        of = small_boards(60, 9, 282)
        of = max(of, key=lambda one: (len(one.places()), len(one.rim())))
        self.assertEqual(len(of.places()), 9)
        chance = Random(3)
        text = notice_text(Notice(of, []))
        rows = chance.sample(all_questions(of), 6)
        text += "".join(f"watch {' '.join(row)}\n" for row in rows)
        self.assertEqual([row[0] for row in read_session(text).watched()], rows)
        for at in range(len(text)):
            self.assertEqual(fault_of(text[:at]) is None, text[:at].startswith(notice_text(Notice(of, [])))
                             and text[:at].endswith("\n"))


if __name__ == "__main__":
    unittest.main()

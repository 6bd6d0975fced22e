"""Points 81 to 84 and 87: right answers, and audits of anybody's texts."""

import unittest
from itertools import combinations
from random import Random

from auditoracle import audit_by_hand, four_of, notices
from byhand import crosses_by_hand, flat_board, is_cross_of, is_picture_of, joined_by_hand, random_board
from mustcross.answertexts import answer_text, read_answer
from mustcross.audits import answers_for, audit
from mustcross.boards import Board
from mustcross.crosses import cross
from mustcross.errors import BadNotice
from mustcross.notices import Notice
from mustcross.noticetexts import notice_fault, notice_text
from mustcross.pictures import picture
from support import (EMPTY, F, N, W, Z, board, no_boards, odd_things, raises_thing, told_new, unchanged)
from textoracle import altered, pairs_of_lines

F_TEXT = "fold u, v behind a, b, x\nat a: b, x\nat b: x, a\nat c: x\nat d: x\nat x: a, b, c, d\n"
W_TEXT = "at a: x\nat b: x\nat c: x\nat d: x\nat x: a, b, c, d\n"
CROSS = "way a, x, c\nway b, y, d\n"
CHAIN = board("a b c d e u v w x", "a u, b u, u v, v w, c w, d w, w x, v e", "a b c d")


def text_of(of, *wishes):
    """The text of a notice."""
    return notice_text(Notice(of, wishes))


class AnswersTest(unittest.TestCase):
    def test_examples(self):
        self.assertEqual(answers_for(Notice(N, [])), [("cross", ["a", "x", "c"], ["b", "y", "d"])])
        self.assertEqual(answers_for(Notice(W, []))[0][1:], ([], read_answer(W_TEXT)[2]))

    def test_just_one_of_both_kinds_each_right(self):
        seen = {}
        for notice in notices(120, 241):
            answers = answers_for(notice)
            self.assertEqual(len(answers), len(notice.wishes()) + 1)
            for index, answer in enumerate(answers):
                of = four_of(notice, index)
                if index:
                    there = joined_by_hand(of, notice.wishes()[index - 1])
                else:
                    there = crosses_by_hand(of)
                self.assertEqual(answer[0], "cross" if there else "picture")
                if there:
                    self.assertTrue(is_cross_of(of, answer[1:]))
                    self.assertEqual(answer[1:], cross(of))
                else:
                    self.assertTrue(is_picture_of(of, answer[1:]))
                    self.assertEqual(answer[1:], picture(of))
                seen[bool(index), there] = seen.get((bool(index), there), 0) + 1
            self.assertIsNone(audit(notice_text(notice), [answer_text(answer) for answer in answers]))
        self.assertEqual(len(seen), 4)
        self.assertGreater(min(seen.values()), 20)

    def test_great_notices(self):
        chance = Random(1)
        for of in [random_board(1, 40, 100, 8), flat_board(2, 20, 12, 90, 2), flat_board(3, 24, 16, 70)]:
            wishes = []
            while len(wishes) < 16:
                a, b, c, d = chance.sample(of.places(), 4)
                if not any(set(pair) == {a, b} for wish in wishes for pair in wish):
                    wishes.append(((a, b), (c, d)))
            notice = Notice(of, wishes)
            texts = tuple(answer_text(answer) for answer in answers_for(notice))
            self.assertIsNone(audit(notice_text(notice), texts))
            self.assertIsNotNone(audit(notice_text(notice), texts[:1] * 17))

    def test_bad_notice_and_told_new(self):
        for thing in [*no_boards()[:-1], F, N]:
            raises_thing(self, BadNotice, thing, answers_for, thing)
        told_new(self, lambda: answers_for(Notice(F, [(("a", "b"), ("c", "d")), (("a", "d"), ("b", "c"))])))


class AuditTest(unittest.TestCase):
    def look(self, text, answers):
        told = audit(text, answers)
        self.assertEqual(told, audit_by_hand(text, answers), (text, answers))
        return told

    def test_examples(self):
        for text, due in [(F_TEXT, (0, 1, 6, "who")), (W_TEXT, None),
                          (W_TEXT.replace("a, b, c, d", "a, c, b, d"), (0, 6, 1, "faces")),
                          (W_TEXT.replace("at d: x\n", ""), (0, 5, 1, "lacks")),
                          ("way a, x, c\nway b, d\n", (0, 2, 8, "tie"))]:
            self.assertEqual(self.look(text_of(W), [text]), due)
        self.assertIsNone(self.look(text_of(F), [F_TEXT]))
        self.assertIsNone(self.look(text_of(N), [CROSS]))
        self.assertIsNone(self.look(text_of(Z), ["fold p, q\n"]))
        self.assertIsNone(self.look(text_of(Z), ["at p: q\nat q: p\n"]))
        self.assertIsNone(self.look(text_of(EMPTY), [""]))
        self.assertEqual(self.look(text_of(Z), [""]), (0, 1, 1, "lacks"))

    def test_form_is_ahead_of_all_else(self):
        self.assertEqual(audit("place a", None), ("notice", 1, 8, "form"))
        for thing in odd_things():
            told = audit(thing, None)
            self.assertEqual(told, ("notice", *notice_fault(thing), "form"))
            self.assertEqual(told[1] == 0, not isinstance(thing, str))
            self.assertEqual(audit(text_of(N), [thing])[:1], (0,))
            due = (0, 0, 0, "form") if not isinstance(thing, str) else audit_by_hand(text_of(N), [thing])
            self.assertEqual(audit(text_of(N), [thing]), due)
            wished = text_of(N, (("a", "b"), ("c", "d")))
            if not isinstance(thing, str):
                self.assertEqual(audit(wished, ["way q, r\nway s, t\n", thing]), (1, 0, 0, "form"))
            if not (isinstance(thing, (list, tuple)) and len(thing) == 1):
                self.assertEqual(audit(text_of(N), thing), ("texts", 0, 0, "many"))
        for texts in [[], [CROSS, CROSS], CROSS, {0: CROSS}, None, ()]:
            self.assertEqual(self.look(text_of(N), texts), ("texts", 0, 0, "many"))
        self.assertEqual(audit("rim\nrim\n", None), ("notice", 2, 1, "form"))
        self.assertEqual(self.look(text_of(N, (("a", "b"), ("c", "d"))), [CROSS]), ("texts", 0, 0, "many"))

    def test_crosses(self):
        for text, due in [("way a, x, c\nway b, y, d\n", None), ("way d, y, b\nway c, x, a\n", None),
                          ("way q, x, c\nway b, y, d\n", (0, 1, 5, "who")), ("way a, x, c\nway b, q\n", (0, 2, 8, "who")),
                          ("way a, c\nway b, q\n", (0, 1, 8, "tie")), ("way a, x, y, d\nway b, c\n", (0, 2, 8, "tie")),
                          ("way a, x\nway q, b\n", (0, 1, 1, "ends")), ("way x, c\nway b, y, d\n", (0, 1, 1, "ends")),
                          ("way a, x, c\nway b, y\n", (0, 2, 1, "ends")), ("way x, a\nway c, q\n", (0, 1, 1, "ends"))]:
            self.assertEqual(self.look(text_of(N), [text]), due)
        beside = board("a b c d", "a b, c d", "a b c d")
        self.assertEqual(self.look(text_of(beside), ["way a, b\nway c, d\n"]), (0, 3, 1, "turns"))
        self.assertEqual(self.look(text_of(beside), ["way d, c\nway b, a\n"]), (0, 3, 1, "turns"))
        over = board("a b c d e f", "a b, b d, c f, e f", "a c b d e")
        self.assertIsNone(self.look(text_of(over), ["way a, b, d\nway c, f, e\n"]))

    def test_crosses_of_wishes(self):
        wished = text_of(N, (("x", "a"), ("y", "b")), (("d", "a"), ("y", "c")))
        rest = ["at a: d\nat d: a\n"]
        for text, due in [("way a, x\nway b, y\n", (2, 1, 7, "tie")), ("way y, b\nway x, a\n", (2, 1, 7, "tie")),
                          ("way a, x, c\nway b, y\n", (1, 1, 1, "ends")), ("way a, x\nway b, y, d\n", (1, 2, 1, "ends")),
                          ("way a, x\nway c, d\n", (1, 2, 8, "tie")), ("way b, y, x, a\nway d, c\n", (1, 1, 1, "ends"))]:
            self.assertEqual(self.look(wished, [CROSS, text, *rest]), due)
        done = text_of(N, (("a", "b"), ("c", "d")))
        self.assertEqual(self.look(done, [CROSS, "way a, x, c\nway b, y, d\n"]), (1, 1, 1, "ends"))
        self.assertIsNone(self.look(text_of(N, (("c", "a"), ("b", "d"))), [CROSS, "way d, y, b\nway a, x, c\n"]))

    def test_pictures(self):
        good = answer_text(("picture", *picture(CHAIN)))
        self.assertIsNone(self.look(text_of(CHAIN), [good]))
        for text, why in [("fold e, q behind v\n", (1, 9, "who")), ("fold a behind u\n", (1, 6, "pin")),
                          ("fold e behind v\nfold e behind v\n", (2, 6, "gone")), ("fold e behind q\n", (1, 15, "who")),
                          ("fold e behind v\nfold v behind e, u, w\n", (2, 15, "gone")),
                          ("fold e, x behind v, w\n", (1, 1, "apart")), ("fold e\n", (1, 1, "feet")),
                          ("fold e behind u, v\n", (1, 1, "feet")), ("fold v behind e, u, w\nfold e\n", (2, 1, "feet")),
                          ("fold v behind e, u, w\nfold e behind u, w\nat v\n", (3, 4, "gone")),
                          ("fold e behind v\nat v: u, e, w\n", (2, 10, "gone")), ("at a: v\n", (1, 7, "tie")),
                          ("at q\n", (1, 4, "who")), ("at a: u, q\n", (1, 10, "who")), ("at v: u, w\n", (1, 1, "lacks")),
                          ("fold e behind v\nat v: u, w\nat x: w\n", (4, 1, "lacks")), ("at a\n", (1, 1, "lacks")),
                          ("fold u behind a, b, v\nat a: v, b\nat b: a, v\nat v: e, w\n", (4, 1, "lacks"))]:
            self.assertEqual(self.look(text_of(CHAIN), [text]), (0, *why))

    def test_folds_that_are_wrong_but_at_their_turn(self):
        of = board("a b c d y z", "a y, b y, c z, d z, y z", "a b c d")
        first, second = "fold y behind a, b, z\n", "fold z behind c, d, y\n"
        orders = "at a: b, z\nat b: z, a\nat c: z\nat d: z\nat z: a, b, c, d\n"
        self.assertIsNone(self.look(text_of(of), [first + orders]))
        self.assertEqual(self.look(text_of(of), [first + second]), (0, 2, 21, "gone"))
        self.assertEqual(self.look(text_of(of), [second + first]), (0, 2, 21, "gone"))
        self.assertEqual(self.look(text_of(of), ["fold y, z behind a, b, c\n"]), (0, 1, 1, "feet"))

    def test_lines_lots_and_feet_in_other_orders(self):
        chance = Random(2)
        for notice in notices(40, 243):
            texts = []
            for answer in answers_for(notice):
                if answer[0] == "picture":
                    folds = [(chance.sample(lot, len(lot)), chance.sample(feet, len(feet))) for lot, feet in answer[1]]
                    lines = [f"fold {', '.join(lot)}" + (f" behind {', '.join(feet)}\n" if feet else "\n")
                             for lot, feet in folds]
                    rows = answer_text(("picture", [], answer[2])).splitlines(True)
                    texts.append("".join(lines + chance.sample(rows, len(rows))))
                else:
                    turned = [way[::chance.choice([1, -1])] for way in answer[1:]]
                    texts.append(answer_text(("cross", *turned[::chance.choice([1, -1])])))
            self.assertIsNone(self.look(notice_text(notice), texts))

    def test_texts_with_one_thing_otherwise(self):
        seen = set()
        for of, wishes, texts in [(W, [], [W_TEXT]), (F, [], [F_TEXT]), (N, [], [CROSS]), (Z, [], ["fold p, q\n"]),
                                  (N, [(("a", "c"), ("b", "d"))], [CROSS, CROSS])]:
            for at, text in enumerate(texts):
                for other in [*altered(text, "abxuq, \n")[::3], *pairs_of_lines(text)]:
                    told = self.look(text_of(of, *wishes), [*texts[:at], other, *texts[at + 1:]])
                    seen.add(told and told[3])
        self.assertLessEqual({None, "form", "who", "tie", "lacks"}, seen)

    def test_other_boards_answers(self):
        chance = Random(3)
        seen = {}
        for notice in notices(60, 245):
            of = notice.board()
            pairs = [pair for pair in combinations(of.places(), 2)]
            answers = [answer_text(answer) for answer in answers_for(notice)]
            for tie in chance.sample(pairs, min(6, len(pairs))):
                ties = [row for row in of.ties() if row != tie]
                if len(ties) == len(of.ties()):
                    ties.append(tie)
                rim = chance.sample(of.rim(), len(of.rim())) if chance.randrange(3) == 0 else of.rim()
                told = self.look(notice_text(Notice(Board(of.places(), ties, rim), notice.wishes())), answers)
                seen[told and told[3]] = seen.get(told and told[3], 0) + 1
        self.assertLessEqual({None, "tie", "turns", "feet", "lacks", "faces"}, set(seen))

    def test_names_otherwise(self):
        chance = Random(4)
        seen = {}
        for notice in notices(80, 247):
            answers = [answer_text(answer) for answer in answers_for(notice)]
            at = chance.randrange(len(answers))
            names = notice.board().places() + ["q"]
            for _ in range(6):
                one, other = chance.choice(names), chance.choice(names)
                lines = [line.split(" ") for line in answers[at].splitlines()]
                if lines:
                    line = chance.choice(lines)
                    spot = chance.randrange(1, len(line))
                    line[spot] = line[spot].replace(one, other)
                text = "".join(" ".join(line) + "\n" for line in lines)
                told = self.look(notice_text(notice), [*answers[:at], text, *answers[at + 1:]])
                seen[told and told[3]] = seen.get(told and told[3], 0) + 1
        self.assertLessEqual({None, "form", "who", "tie", "ends", "pin", "gone", "feet"}, set(seen))

    def test_names_of_eight_signs_and_figures(self):
        of = Board(["a1234567", "b", "c9", "d", "xxxxxxxx"], [("a1234567", "xxxxxxxx"), ("c9", "xxxxxxxx")],
                   ["a1234567", "b", "c9", "d"])
        self.assertEqual(audit(text_of(of), ["way a1234567, xxxxxxxx, c9\nway b, d\n"]), (0, 2, 8, "tie"))
        self.assertEqual(audit(text_of(of), ["way a1234567, xxxxxxxx, d\nway b, c9\n"]), (0, 1, 25, "tie"))

    def test_unchanged(self):
        unchanged(self, audit, text_of(N, (("a", "b"), ("c", "d"))), [CROSS, CROSS])


if __name__ == "__main__":
    unittest.main()

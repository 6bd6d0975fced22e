"""Points 10 and 11, and what point 14 says of notices' texts."""

import unittest

from mustcross.boards import Board
from mustcross.errors import BadNotice, BadText
from mustcross.notices import Notice
from mustcross.noticetexts import notice_fault, notice_goes_on, notice_text, read_notice
from support import (EMPTY, F, N, W, WORDS, Z, board, odd_things, raises_thing, raises_with,
                     small_boards)
from textoracle import (altered, notice_fault_by_hand, notice_fault_by_hand_behind, pairs_of_lines,
                        place_of)

FOUR = "place a\nplace b\nplace c\nplace d\n"
FULL = FOUR + "rim\napart a b, c d\napart a c, b d\napart a d, b c\n"


def text_of(lines):
    return "".join(line + "\n" for line in lines.split("; "))


class NoticeTextTest(unittest.TestCase):
    def fault(self, text, line, sign):
        """A text is wrong there, is not read, and goes on just if the place is behind it."""
        self.assertEqual(notice_fault(text), (line, sign), text[-80:])
        raises_with(self, BadText, {"line": line, "sign": sign}, read_notice, text)
        longer = notice_goes_on(text)
        if (line, sign) == place_of(text, len(text)):
            self.assertTrue(longer.startswith(text), text)
            self.assertIsNone(notice_fault(longer), longer)
        else:
            self.assertIsNone(longer, text)

    def is_read(self, text, notice):
        self.assertIsNone(notice_fault(text))
        self.assertTrue(read_notice(text) == notice)
        longer = notice_goes_on(text)
        self.assertTrue(longer.startswith(text))
        self.assertIsNone(notice_fault(longer))

    def test_text(self):
        notice = Notice(F, [(("x", "b"), ("d", "a")), (("u", "v"), ("b", "a"))])
        lines = ("place a; place b; place c; place d; place u; place v; place x; tie a u; tie a x; "
                 "tie b u; tie b x; tie c x; tie d x; tie u v; tie v x; rim a, b, c, d; "
                 "apart a d, b x; apart a b, u v")
        self.assertEqual(notice_text(notice), text_of(lines))
        self.is_read(text_of(lines), notice)

    def test_text_of_little(self):
        self.assertEqual(notice_text(Notice(EMPTY, [])), "rim\n")
        self.assertEqual(notice_text(Notice(Z, [])), text_of("place p; place q; tie p q; rim"))
        self.assertEqual(notice_text(Notice(board("b a", "", "b"), [])), text_of("place a; place b; rim b"))
        self.assertEqual(notice_text(Notice(board("b a", "", "b a"), [])), text_of("place a; place b; rim b, a"))

    def test_reads_its_own_texts(self):
        for of in [N, F, Z, W, EMPTY, *small_boards(60)]:
            places = of.places()
            wishes = [(places[:2], places[2:4]), (places[1:3], [places[0], places[3]])] if places[3:] else []
            self.is_read(notice_text(Notice(of, wishes)), Notice(of, wishes))

    def test_other_orders(self):
        lines = "place x; place b; tie x b; place a; tie a b; place c; tie c x; rim c, a; apart c x, b a"
        made = Board(["a", "b", "c", "x"], [("b", "x"), ("a", "b"), ("c", "x")], ["c", "a"])
        for wish in ["c x, b a", "x c, b a", "b a, x c", "a b, c x", "a b, x c", "c x, a b"]:
            self.is_read(text_of(lines.replace("c x, b a", wish)), Notice(made, [(("a", "b"), ("c", "x"))]))

    def test_wishes_stay_in_order(self):
        text = FOUR + "rim\napart d c, b a\napart d b, a c\n"
        self.assertEqual(read_notice(text).wishes(), [(("a", "b"), ("c", "d")), (("a", "c"), ("b", "d"))])

    def test_no_string(self):
        for thing in [*odd_things(), F, Notice(F, []), ["rim\n"], ("rim\n",), b"rim\n"]:
            if not isinstance(thing, str):
                self.assertEqual(notice_fault(thing), (0, 0))
                self.assertIsNone(notice_goes_on(thing))
                raises_with(self, BadText, {"line": 0, "sign": 0}, read_notice, thing)

    def test_no_notice(self):
        for thing in [*odd_things(), F, "rim\n", [F, []]]:
            raises_thing(self, BadNotice, thing, notice_text, thing)

    def test_examples(self):
        self.fault("place a\ntie", 2, 1)
        self.fault("place a\nplace b\ntie a b\ntie", 4, 1)
        self.fault("place a\nrim a,", 2, 6)

    def test_the_empty_text_and_begins(self):
        self.fault("", 1, 1)
        self.fault("\n", 1, 1)
        self.fault("p", 1, 2)
        self.fault("place", 1, 6)
        self.fault("place ", 1, 7)
        self.fault("place a", 1, 8)
        self.fault("place a\n", 2, 1)
        self.fault("rim", 1, 4)
        self.fault("t", 1, 1)
        self.fault("a", 1, 1)
        self.fault("rim\na", 2, 1)
        self.fault("rim\n\n", 2, 1)
        self.fault("rim ", 1, 4)
        self.fault("place a\nrim ", 2, 5)
        self.fault("place a\nrim a", 2, 6)

    def test_no_names(self):
        self.fault("place \n", 1, 7)
        self.fault("place  a", 1, 7)
        self.fault("place A", 1, 7)
        self.fault("place 0", 1, 7)
        self.fault("place a_", 1, 8)
        self.fault("place a \n", 1, 8)
        self.fault("place a\r\n", 1, 8)
        self.fault("place abcdefghi\n", 1, 15)
        self.fault("place \u00e4\n", 1, 7)
        self.fault("place a\u0661\n", 1, 8)
        self.fault("rim\r\n", 1, 4)
        self.fault("rim\u2028", 1, 4)

    def test_words_are_no_names(self):
        for word in WORDS:
            self.fault(f"place {word}\n", 1, 7 + len(word))
            self.fault(f"place {word}", 1, 7 + len(word))
            self.is_read(f"place {word}1\nrim {word}1\n", Notice(board(word + "1", "", word + "1"), []))

    def test_a_name_that_stood(self):
        self.fault("place a\nplace a\n", 2, 8)
        self.fault("place a\nplace a", 2, 8)
        self.fault("place abcdefgh\nplace abcdefg", 2, 14)
        self.fault("place abcdefgh\nplace abcdefgh", 2, 14)
        self.fault("place abcdefgh\nplace abcdefgh\n", 2, 14)

    def test_names_that_run_out(self):
        names = ["abcdefg"] + ["abcdefg" + sign for sign in "abcdefghijklmnopqrstuvwxyz0123456789"]
        lines = "".join(f"place {name}\n" for name in names)
        self.fault(lines + "place abcdefg", 38, 13)
        self.fault(lines + "place abcdef", 38, 13)
        self.fault(lines + "place abcdefh", 38, 14)
        for left_out in [0, 1, 20, 36]:
            some = [name for name in names if name != names[left_out]]
            text = "".join(f"place {name}\n" for name in some) + "place abcdefg"
            self.fault(text, 37, 14)
            self.assertTrue(notice_goes_on(text).startswith(text + names[left_out][7:] + "\n"))

    def test_ties(self):
        ahead = "place ab\nplace b\nplace abc\n"
        self.fault(ahead + "tie c", 4, 5)
        self.fault(ahead + "tie a", 4, 6)
        self.fault(ahead + "tie a ", 4, 6)
        self.fault(ahead + "tie ab a", 4, 9)
        self.fault(ahead + "tie ab ab ", 4, 10)
        self.fault(ahead + "tie ab ab\n", 4, 10)
        self.fault(ahead + "tie ab abcd", 4, 11)
        self.fault(ahead + "tie b b", 4, 7)
        self.fault(ahead + "tie ab b \n", 4, 9)
        self.fault(ahead + "tie ab\n", 4, 7)
        self.fault(ahead + "tie ab, b\n", 4, 7)
        self.fault("place a\ntie a b\nplace b\nrim\n", 2, 1)

    def test_ties_that_run_out(self):
        ahead = "place ab\nplace b\nplace abc\ntie b ab\n"
        self.fault(ahead + "tie b ab", 5, 9)
        self.fault(ahead + "tie b ab\n", 5, 9)
        self.fault(ahead + "tie ab b", 5, 8)
        ahead = ahead + "tie abc b\n"
        self.fault(ahead + "tie b", 6, 5)
        self.fault(ahead + "tie ab abc", 6, 11)
        self.fault(ahead + "tie ab abc\ntie", 7, 1)
        self.fault(ahead + "tie ab abc\nplace x\ntie ab ", 8, 8)
        self.fault(ahead + "tie ab abc\nplace x\ntie ab a", 8, 8)
        self.fault(ahead + "tie ab abc\nplace x\ntie x x", 8, 7)

    def test_the_rim(self):
        ahead = "place a\nplace ab\n"
        self.fault(ahead + "rim b", 3, 5)
        self.fault(ahead + "rim a, a", 3, 9)
        self.fault(ahead + "rim a, a\n", 3, 9)
        self.fault(ahead + "rim ab, ab", 3, 10)
        self.fault(ahead + "rim a,ab", 3, 7)
        self.fault(ahead + "rim a ab", 3, 6)
        self.fault(ahead + "rim a, ab,", 3, 10)
        self.fault(ahead + "rim , a", 3, 5)
        self.fault(ahead + "rim \n", 3, 5)
        self.fault(ahead + "rim a\nrim\n", 4, 1)
        self.fault(ahead + "rim a\nplace c\n", 4, 1)
        self.fault(ahead + "rim a\ntie a ab\n", 4, 1)
        self.fault(ahead + "rim ab, a\n\n", 4, 1)

    def test_wishes(self):
        self.fault("place a\nplace b\nplace c\nrim\na", 5, 1)
        self.fault(FOUR + "apart a b, c d\nrim\n", 5, 1)
        self.fault(FOUR + "rim\napart a a", 6, 9)
        self.fault(FOUR + "rim\napart a b, a", 6, 12)
        self.fault(FOUR + "rim\napart a b, c c", 6, 14)
        self.fault(FOUR + "rim\napart a b c", 6, 10)
        self.fault(FOUR + "rim\napart a, b", 6, 8)
        self.fault(FOUR + "rim\napart a b, c d", 6, 15)
        self.fault(FOUR + "rim\napart a b, c d, ", 6, 15)
        self.fault(FOUR + "rim\napart a b, c d\n\n", 7, 1)
        self.fault(FOUR + "rim\napart x", 6, 7)

    def test_wishes_that_run_out(self):
        self.fault(FOUR + "rim\napart a b, c d\napart a b", 7, 9)
        self.fault(FOUR + "rim\napart a b, c d\napart d c", 7, 9)
        self.fault(FOUR + "rim\napart a b, c d\napart b c, a", 7, 13)
        self.fault(FOUR + "rim\napart a b, c d\napart a c, b d\napart b a", 8, 9)
        self.fault(FULL + "a", 9, 1)
        self.assertIsNone(notice_fault(FULL))
        five = FOUR + "place e\nrim\napart a b, c d\n"
        self.fault(five + "apart a b, c d", 8, 14)
        self.fault(five + "apart a b, d c", 8, 14)
        self.fault(five + "apart c d, b a", 8, 14)
        self.fault(five + "apart a b, c e\napart a b, e", 9, 13)
        self.fault(five + "apart a b, c e\napart a b, c", 9, 12)
        self.fault(five + "apart a b, c e\napart b a, e c", 9, 14)
        self.fault(five + "apart a b, c e\napart a b, e d\napart b a", 10, 9)
        self.fault(five + "apart a b, c e\napart a b, e d\napart a", 10, 8)

    def test_place_one_behind(self):
        self.fault(FOUR, 5, 1)
        self.fault(FOUR[:-1], 4, 8)
        self.fault(FOUR + "tie a b\n", 6, 1)

    def test_sign_by_sign(self):
        texts = ["place a\nplace ab\ntie a ab\nplace b\nrim ab, a\n",
                 "place a\nplace b\nplace aa\nplace ba\nrim a\napart a aa, b ba\napart aa b, ba a\n",
                 "place a\nplace tie\nplace tie1\ntie a tie1\nrim\n", FULL]
        for text in texts:
            for other in [*altered(text, "a b,\n1"), *pairs_of_lines(text)]:
                due = notice_fault_by_hand(other)
                self.assertEqual(notice_fault(other), due, other)
                if due is not None:
                    self.fault(other, *due)
                else:
                    self.is_read(notice_text(read_notice(other)), read_notice(other))

    def test_run_out_sign_by_sign(self):
        names = ["rimrims" + sign for sign in "0123456789abcdefghijklmnopqrstuvwxyz"]
        for left_out in [[], [names[0]], [names[35]], ["rimrims"], [names[3], "rimrims"]]:
            lines = [f"place {name}\n" for name in [*names, "rimrims"] if name not in left_out]
            for last in ["place rimrims", "place rimrims0\n", "place rimrimsz\n", "place rimrims3\n"]:
                text = "".join(lines) + last
                self.assertEqual(notice_fault(text), notice_fault_by_hand_behind("".join(lines), last))

    def test_goes_on_is_the_same_each_time(self):
        for text in ["", "place a\npl", FOUR + "rim\napart b"]:
            self.assertEqual(notice_goes_on(text), notice_goes_on(text))

    def test_limits(self):
        places = [f"p{number:02}abcde" for number in range(40)]
        ties = [(one, other) for one in places[:10] for other in places[30:]]
        wishes = [((places[k], places[k + 1]), (places[k + 2], places[k + 3])) for k in range(16)]
        notice = Notice(Board(places, ties, places[::-1]), wishes)
        text = notice_text(notice)
        self.is_read(text, notice)
        self.fault(text + "apart " + places[3] + " " + places[3], len(text.split("\n")), 18)
        self.fault(text[:-1], text.count("\n"), len(text.split("\n")[-2]) + 1)

    def test_what_is_refused_may_be_longer(self):
        self.fault("place a\n" + "place b\n" * 50000, 3, 8)
        self.fault("x" * 1000000, 1, 1)
        many = "".join(f"place p{number}\n" for number in range(2500))
        self.fault(many + "x", 2501, 1)


if __name__ == "__main__":
    unittest.main()

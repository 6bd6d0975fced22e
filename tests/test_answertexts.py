"""Points 12 and 13, and what point 14 says of answers' texts."""

import unittest

from mustcross.answertexts import answer_fault, answer_text, read_answer
from mustcross.errors import BadAnswer, BadText
from support import (F, WORDS, boxes, listed, odd_things, raises_thing, raises_with, told_new,
                     tupled, unchanged)
from textoracle import altered, answer_fault_by_hand, pairs_of_lines

CROSS = ("cross", ["a", "x", "c"], ["b", "y", "d"])
PICTURE = ("picture", [(["u", "v"], ["a", "b", "x"])],
           {"a": ["b", "x"], "b": ["x", "a"], "c": ["x"], "d": ["x"], "x": ["a", "b", "c", "d"]})
CROSS_TEXT = "way a, x, c\nway b, y, d\n"
PICTURE_TEXT = "fold u, v behind a, b, x\nat a: b, x\nat b: x, a\nat c: x\nat d: x\nat x: a, b, c, d\n"
NO_ANSWERS = [
    (), [], ("cross",), ("cross", ["a", "b"]), ("cross", ["a", "b"], ["c"]), ("cross", ["a"], ["b", "c"]),
    ("cross", ["a", "b"], ["b", "c"]), ("cross", ["a", "a"], ["b", "c"]), ("cross", [], []),
    ("cross", ["a", "b"], ["c", "c"]), ("cross", ["a", "b"], ["c", "d"], []), ("cross", "ab", "cd"),
    ("cross", ["a", "rim"], ["c", "d"]), ("cross", ["a", 1], ["c", "d"]), ("cross", ["a", "b"], ["c", ["d"]]),
    ("cross", ["a", "b"], None), ("cross", ["a", "b"], ["c", F]), ("cross", ["a", "b"], {"c": 1, "d": 2}),
    ("cross", None, ["a", "b"]), ("cross", "ab", ["c", "d"]), ("cross", {"a": 1, "b": 2}, ["c", "d"]),
    ("way", ["a", "b"], ["c", "d"]), (True, ["a", "b"], ["c", "d"]), (F, ["a", "b"], ["c", "d"]),
    (["cross"], ["a", "b"], ["c", "d"]), ("none",), ("picture",), ("picture", []), ("picture", {}, []),
    ("picture", [], {}, {}), ("picture", [], []), ("picture", {}, {}), ("picture", None, {}),
    ("picture", [([], [])], {}), ("picture", [([], ["a"])], {}), ("picture", [(["a"],)], {}),
    ("picture", [(["a"], [], [])], {}), ("picture", [["a", "b"]], {}), ("picture", ["ab"], {}),
    ("picture", [(["a"], ["b", "c", "d", "e"])], {}), ("picture", [(["a"], ["a"])], {}),
    ("picture", [(["a", "a"], [])], {}), ("picture", [(["a"], ["b", "b"])], {}),
    ("picture", [(["A"], [])], {}), ("picture", [(["a"], ["at"])], {}), ("picture", [(["a"], None)], {}),
    ("picture", [("a", [])], {}), ("picture", [(["a"], "b")], {}), ("picture", [(["a"], [True])], {}),
    ("picture", [(["a"], []), 3], {}), ("picture", [(["a"], {})], {}), ("picture", [({"a": 1}, [])], {}),
    ("picture", [], {"a": ["a"]}), ("picture", [], {"a": ["b", "b"]}), ("picture", [], {"a": "b"}),
    ("picture", [], {"a": None}), ("picture", [], {1: ["b"]}), ("picture", [], {"rim": ["b"]}),
    ("picture", [], {"a": ["rim"]}), ("picture", [], {"a": [1]}), ("picture", [], {("a",): ["b"]}),
    ("picture", [], {"a": [["b"]]}), ("picture", [], {"a": {"b": 1}}), ("picture", [], {None: []}),
    ("picture", [], {"a": ["b"], "": []}), ("picture", [], None), ("Picture", [], {}),
]


class AnswerTextTest(unittest.TestCase):
    def fault(self, text, line, sign):
        self.assertEqual(answer_fault(text), (line, sign), text)
        raises_with(self, BadText, {"line": line, "sign": sign}, read_answer, text)

    def is_read(self, text, answer):
        self.assertIsNone(answer_fault(text), text)
        told = read_answer(text)
        self.assertEqual(repr(told), repr(answer))

    def test_texts(self):
        self.assertEqual(answer_text(CROSS), CROSS_TEXT)
        self.assertEqual(answer_text(PICTURE), PICTURE_TEXT)
        self.assertEqual(answer_text(("picture", [(["q", "p"], [])], {})), "fold p, q\n")
        self.assertEqual(answer_text(("picture", [], {})), "")
        self.assertEqual(answer_text(("picture", [], {"a": []})), "at a\n")
        self.assertEqual(answer_text(("cross", ["b", "a"], ["d", "c"])), "way b, a\nway d, c\n")

    def test_told_order(self):
        given = ("picture", [(["v", "u"], ["x", "b", "a"]), (["c"], ["b"]), (["b", "a"], [])],
                 {"x": ["d", "c"], "b": [], "a": ["x", "b"]})
        text = "fold u, v behind a, b, x\nfold c behind b\nfold a, b\nat a: x, b\nat b\nat x: d, c\n"
        self.assertEqual(answer_text(given), text)
        told = ("picture", [(["u", "v"], ["a", "b", "x"]), (["c"], ["b"]), (["a", "b"], [])],
                {"a": ["x", "b"], "b": [], "x": ["d", "c"]})
        self.is_read(text, told)
        self.assertEqual(answer_text(told), text)

    def test_lists_and_tuples(self):
        for answer in [CROSS, ("picture", PICTURE[1], {}), ("picture", [(["a"], []), (["b"], ["a"])], {})]:
            self.assertEqual(answer_text(listed(answer)), answer_text(answer))
            self.assertEqual(answer_text(tupled(answer)), answer_text(answer))
        orders = {"a": ("b", "x"), "b": ()}
        self.assertEqual(answer_text(["picture", (), orders]), "at a: b, x\nat b\n")

    def test_reads_its_own_texts(self):
        self.is_read(CROSS_TEXT, CROSS)
        self.is_read(PICTURE_TEXT, PICTURE)
        self.is_read("", ("picture", [], {}))
        self.is_read("fold p, q\n", ("picture", [(["p", "q"], [])], {}))
        self.is_read("fold a\nfold a\nfold a behind b\n",
                     ("picture", [(["a"], []), (["a"], []), (["a"], ["b"])], {}))
        self.is_read("at a: rim1, at2\nat fold0\n", ("picture", [], {"a": ["rim1", "at2"], "fold0": []}))

    def test_other_orders(self):
        text = "fold v, u behind x, a, b\nat x: a, b, c, d\nat a: b, x\nat d: x\nat b: x, a\nat c: x\n"
        self.is_read(text, PICTURE)
        self.assertEqual(list(read_answer(text)[2]), ["a", "b", "c", "d", "x"])

    def test_bad_answers(self):
        for thing in [*odd_things(), *NO_ANSWERS, F, "cross", CROSS_TEXT, [CROSS], {"cross": 1}]:
            raises_thing(self, BadAnswer, thing, answer_text, thing)

    def test_words_are_no_names(self):
        for word in WORDS:
            for thing in [("cross", ["a", "b"], ["c", word]), ("picture", [([word], [])], {}),
                          ("picture", [], {word: []}), ("picture", [], {"a": [word]})]:
                raises_thing(self, BadAnswer, thing, answer_text, thing)
            self.fault(f"fold {word}\n", 1, 6 + len(word))
            self.fault(f"at {word}\n", 1, 4 + len(word))
            self.fault(f"at a: {word}\n", 1, 7 + len(word))
            self.fault(f"way a, {word}\n", 1, 8 + len(word))
            self.is_read(f"fold {word}1\n", ("picture", [([word + "1"], [])], {}))

    def test_no_string(self):
        for thing in [*odd_things(), F, CROSS, PICTURE, b"", ["at a\n"]]:
            if not isinstance(thing, str):
                self.assertEqual(answer_fault(thing), (0, 0))
                raises_with(self, BadText, {"line": 0, "sign": 0}, read_answer, thing)

    def test_examples(self):
        self.fault("way a", 1, 6)
        self.fault("way a, b\nway a", 2, 6)
        self.fault("fold a behind b, c, d,", 1, 22)

    def test_faults_of_a_cross(self):
        self.fault("way a\n", 1, 6)
        self.fault("way a, a", 1, 9)
        self.fault("way a, a\n", 1, 9)
        self.fault("way a, b", 1, 9)
        self.fault("way a, b\n", 2, 1)
        self.fault("way a, b\nf", 2, 1)
        self.fault("way a, b\nat c\n", 2, 1)
        self.fault("way a, b\n\n", 2, 1)
        self.fault("way a, b\nway c\n", 2, 6)
        self.fault("way a, b\nway c, b\n", 2, 9)
        self.fault("way a, b\nway c, d\n\n", 3, 1)
        self.fault("way a, b\nway c, d\nway e, f\n", 3, 1)
        self.fault("way a, b\nway c, d", 2, 9)
        self.fault("way a,b\n", 1, 7)
        self.fault("way \n", 1, 5)
        self.fault("wa", 1, 3)
        self.fault("x", 1, 1)
        self.fault("\n", 1, 1)

    def test_faults_of_a_picture(self):
        self.fault("fold\n", 1, 5)
        self.fault("fold \n", 1, 6)
        self.fault("fold a, a\n", 1, 10)
        self.fault("fold a b\n", 1, 9)
        self.fault("fold a c\n", 1, 8)
        self.fault("fold a behind \n", 1, 15)
        self.fault("fold a behind a\n", 1, 16)
        self.fault("fold a behind a", 1, 16)
        self.fault("fold a, b behind c, c\n", 1, 22)
        self.fault("fold a behind b behind c\n", 1, 16)
        self.fault("fold a behind b,c\n", 1, 17)
        self.fault("fold a:\n", 1, 7)
        self.fault("fold abcdefgh, abcdefgh", 1, 23)
        self.fault("at a\nfold b\n", 2, 1)
        self.fault("at a\nway b, c\n", 2, 1)
        self.fault("fold a\nway b, c\n", 2, 1)
        self.fault("at a:\n", 1, 6)
        self.fault("at a: \n", 1, 7)
        self.fault("at a: a\n", 1, 8)
        self.fault("at a: b, b\n", 1, 11)
        self.fault("at a: b,\n", 1, 9)
        self.fault("at a:b\n", 1, 6)
        self.fault("at a, b\n", 1, 5)
        self.fault("at a: b: c\n", 1, 8)
        self.fault("at a\nat a\n", 2, 5)
        self.fault("at a\nat a", 2, 5)
        self.fault("at abcdefgh\nat abcdefgh", 2, 11)
        self.fault("at abcdefgh: abcdefgh", 1, 21)
        self.fault("at a\n\n", 2, 1)

    def test_at_lines_may_have_names_of_other_lines(self):
        self.is_read("fold a behind b\nfold b behind a\nat b: a\nat a: b\n",
                     ("picture", [(["a"], ["b"]), (["b"], ["a"])], {"a": ["b"], "b": ["a"]}))

    def test_names_that_run_out(self):
        names = ["abcdefg" + sign for sign in "abcdefghijklmnopqrstuvwxyz0123456789"] + ["abcdefg"]
        row = ", ".join(names)
        for ahead in ["fold " + row, "at x: " + row, "way " + row, "fold x, " + row + " behind y",
                      "at abcdefg: " + ", ".join(names[:-1])]:
            self.fault(ahead + ", abcdefg", 1, len(ahead) + 9)
            self.fault(ahead + ", abcdef", 1, len(ahead) + 9)
        self.fault("way " + row + "\nway abcdefg", 2, 11)
        self.fault("fold " + row + " behind abcdefg", 1, len("fold " + row + " behind abcdefg"))
        self.fault("fold " + row + "\nfold abcdefg", 2, 13)
        self.fault("way " + ", ".join(names[1:]) + "\nway abcdefg", 2, 12)
        keys = "".join(f"at {name}\n" for name in names)
        self.fault(keys + "at abcdefg", 38, 10)
        self.fault(keys + "at x: abcdefg", 38, 14)

    def test_names_that_run_out_for_a_word(self):
        signs = "abcdefghijklmnopqrstuvwxyz0123456789"
        names = ["behind" + one for one in signs] + ["behind" + one + two for one in signs for two in signs]
        ahead = "way " + ", ".join(names)
        self.assertLess(len(ahead), 20000)
        self.fault(ahead + ", behind", 1, len(ahead) + 8)
        ahead = "way " + ", ".join(names[:700] + names[701:])
        self.fault(ahead + ", behind", 1, len(ahead) + 9)
        self.fault(ahead + ", behind\n", 1, len(ahead) + 9)
        self.fault(ahead + ", " + names[700][:7], 1, len(ahead) + 10)

    def test_sign_by_sign(self):
        for text in ["way a, at1\nway b, c\n", "fold a, b behind c, d\nat a: b\nat b\n",
                     "fold a behind b, c, d\n"]:
            for other in [*altered(text, "ab ,:\n"), *pairs_of_lines(text)]:
                due = answer_fault_by_hand(other)
                self.assertEqual(answer_fault(other), due, other)
                if due is not None:
                    self.fault(other, *due)
                else:
                    told = read_answer(other)
                    self.assertEqual(repr(read_answer(answer_text(told))), repr(told))

    def test_told_new(self):
        for text in [CROSS_TEXT, PICTURE_TEXT, "", "fold a\nfold b\nat a\nat b\nat c\n"]:
            told_new(self, lambda text=text: read_answer(text))
        self.assertEqual(len(boxes(read_answer("fold a\nat a\n"))), 5)

    def test_passed_is_unchanged(self):
        given = ("picture", [(["v", "u"], ["x", "b", "a"])], {"x": ["d", "c"], "a": ["x", "b"]})
        unchanged(self, answer_text, given)
        unchanged(self, answer_text, CROSS)

    def test_limits(self):
        names = [f"name{number:04}" for number in range(40)]
        answer = ("picture", [([name], [other for other in names[:4] if other != name][:3]) for name in names],
                  {name: [other for other in names if other != name] for name in names})
        text = answer_text(answer)
        self.assertGreater(len(text), 15000)
        self.is_read(text, answer)
        self.fault(text + "at " + names[7], 81, 11)
        self.fault(text * 20, 81, 1)
        long_way = ", ".join(f"n{number}" for number in range(2000))
        self.fault("way " + long_way, 1, len(long_way) + 5)


if __name__ == "__main__":
    unittest.main()

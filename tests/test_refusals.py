"""Points 85 and 87: words of others about a notice, and what refuses the first wrong one."""

import unittest
from itertools import product
from random import Random

from auditoracle import four_of, notices
from byhand import crosses_by_hand, flat_board, is_cross_of, is_picture_of, joined_by_hand, random_board
from mustcross.audits import answers_for
from mustcross.errors import BadNotice, BadWords
from mustcross.notices import Notice
from mustcross.refusals import is_refusal, refusal
from support import (EMPTY, F, N, W, Z, listed, no_boards, odd_things, raises_thing, raises_with, told_new, tupled,
                     unchanged)

WISHED = Notice(N, [(("a", "c"), ("b", "d")), (("a", "b"), ("c", "d")), (("a", "x"), ("b", "y"))])
RIGHT = ["cross", "apart", "none", "apart"]


def right_words(notice):
    """The right words, by going through all ways."""
    there = [crosses_by_hand(notice.board()), *[joined_by_hand(notice.board(), wish) for wish in notice.wishes()]]
    return ["none" if not one else "apart" if at else "cross" for at, one in enumerate(there)]


def turned_word(word, index):
    """The wrong word for a right one."""
    return "none" if word != "none" else "apart" if index else "cross"


class RefusalTest(unittest.TestCase):
    def test_example(self):
        self.assertEqual(refusal(Notice(N, []), ["none"]), (0, ("cross", ["a", "x", "c"], ["b", "y", "d"])))
        self.assertIsNone(refusal(Notice(N, []), ["cross"]))

    def look(self, notice, words, index):
        """The first wrong word, or none, is refused as it should be."""
        told = refusal(notice, words)
        if index is None:
            self.assertIsNone(told)
            return
        self.assertIsInstance(told, tuple)
        self.assertEqual(told[0], index)
        of, answer = four_of(notice, index), told[1]
        self.assertEqual(answer[0], "cross" if words[index] == "none" else "picture")
        self.assertTrue(is_cross_of(of, answer[1:]) if answer[0] == "cross" else is_picture_of(of, answer[1:]))
        self.assertIs(is_refusal(notice, words, told), True)
        self.assertIs(is_refusal(notice, words, listed(told)), True)
        self.assertEqual(refusal(notice, tuple(words)), told)

    def test_all_words(self):
        seen = {}
        for notice in notices(50, 251):
            right = right_words(notice)
            kinds = [["cross", "none"], *[["apart", "none"] for _ in notice.wishes()]]
            for words in product(*kinds):
                wrong = [at for at, word in enumerate(words) if word != right[at]]
                self.look(notice, list(words), wrong[0] if wrong else None)
                seen[len(wrong)] = seen.get(len(wrong), 0) + 1
        self.assertGreater(min(seen[many] for many in range(4)), 20)

    def test_one_wrong_word_and_all(self):
        for at in range(4):
            words = list(RIGHT)
            words[at] = turned_word(words[at], at)
            self.look(WISHED, words, at)
        self.look(WISHED, RIGHT, None)
        self.look(WISHED, [turned_word(word, at) for at, word in enumerate(RIGHT)], 0)
        for of, word in [(W, "cross"), (F, "cross"), (Z, "cross"), (EMPTY, "cross"), (N, "none")]:
            self.look(Notice(of, []), [word], 0)

    def test_great_notices(self):
        chance = Random(1)
        for of in [random_board(1, 40, 100, 8), flat_board(2, 24, 12, 90)]:
            wishes = []
            while len(wishes) < 16:
                a, b, c, d = chance.sample(of.places(), 4)
                if not any(set(pair) == {a, b} for wish in wishes for pair in wish):
                    wishes.append(((a, b), (c, d)))
            notice = Notice(of, wishes)
            kinds = [answer[0] for answer in answers_for(notice)]
            words = ["none" if kind == "picture" else "apart" if at else "cross" for at, kind in enumerate(kinds)]
            self.look(notice, words, None)
            for at in (0, 7, 16):
                self.look(notice, [*words[:at], turned_word(words[at], at), *words[at + 1:]], at)


class IsRefusalTest(unittest.TestCase):
    def test_other_right_answers(self):
        words = ["cross", "none", "none", "none"]
        for thing in [(1, ("cross", ["a", "x", "c"], ["b", "y", "d"])), [1, ["cross", ("d", "y", "b"), ("a", "x", "c")]],
                      (1, ("cross", ("c", "x", "a"), ["b", "y", "d"]))]:
            self.assertIs(is_refusal(WISHED, words, thing), True)
        words = ["cross", "apart", "apart", "none"]
        orders = {"a": ["x"], "b": ["y"], "c": ["x"], "d": ["y"], "x": ["a", "c", "y"], "y": ["b", "d", "x"]}
        four = four_of(WISHED, 2)
        self.assertEqual(four.rim(), ["a", "c", "b", "d"])
        told = refusal(WISHED, words)
        self.assertIs(is_refusal(WISHED, words, told), True)
        for turned in ["acy", "ayc"]:
            for other in ["bdx", "bxd"]:
                found = {**orders, "x": list(turned), "y": list(other)}
                due = is_picture_of(four, ([], found))
                self.assertIs(is_refusal(WISHED, words, (2, ("picture", [], found))), due)
                self.assertIs(is_refusal(WISHED, words, [2, ["picture", (), tupled_values(found)]]), due)

    def test_any_object(self):
        words = ["cross", "none", "apart", "none"]
        good = (1, ("cross", ["a", "x", "c"], ["b", "y", "d"]))
        self.assertIs(is_refusal(WISHED, words, good), True)
        for thing in [*odd_things(), (1,), (*good, 1), good[1], (0, good[1]), (2, good[1]), (3, good[1]), (True, good[1]),
                      ("1", good[1]), (-1, good[1]), (None, good[1]), {1: good[1]}, (1, good[1][:2]),
                      (1, (*good[1], [])), (1, ("Cross", *good[1][1:])), (1, ("picture", *good[1][1:])),
                      (1, (None, *good[1][1:])), (1, ("cross", good[1][1], ["b", "y"])),
                      (1, ("cross", good[1][1], "byd")), (1, ("cross", good[1][1], ["b", "y", "x", "d"])),
                      (1, ("cross", ["a", "x"], ["b", "y"])), (1, ("picture", [], {})), (1, good[1][1:])]:
            self.assertIs(is_refusal(WISHED, words, thing), False, thing)
        for thing in odd_things():
            self.assertIs(is_refusal(WISHED, words, (1, thing)), False)
            self.assertIs(is_refusal(WISHED, words, (1, ("cross", thing, good[1][2]))), False)
            self.assertIs(is_refusal(WISHED, words, (1, ("cross", good[1][1], thing))), False)
            self.assertIs(is_refusal(WISHED, words, ([thing], good[1])), False)

    def test_only_the_first_wrong_word(self):
        words = ["none", "none", "apart", "none"]
        answers = [(0, ("cross", ["a", "x", "c"], ["b", "y", "d"])), (1, ("cross", ["a", "x", "c"], ["b", "y", "d"])),
                   refusal(WISHED, ["cross", "apart", "apart", "apart"])]
        self.assertEqual([is_refusal(WISHED, words, thing) for thing in answers], [True, False, False])

    def test_nothing_is_if_all_are_right(self):
        for thing in [*odd_things(), refusal(WISHED, ["none", *RIGHT[1:]]), (0, answers_for(WISHED)[0])]:
            self.assertIs(is_refusal(WISHED, RIGHT, thing), False)

    def test_pictures_with_one_thing_otherwise(self):
        notice = Notice(F, [])
        told = refusal(notice, ["cross"])
        self.assertIs(is_refusal(notice, ["cross"], told), True)
        _, (kind, folds, orders) = told
        for thing in [(kind, folds, {**orders, "a": orders["a"][::-1]}), (kind, [], orders), (kind, folds, {}),
                      (kind, folds[::-1] + folds, orders), (kind, None, orders), (kind, folds, None),
                      (kind, folds, {**orders, "q": []}), ("cross", folds, orders), (kind, orders, folds),
                      ("pictures", folds, orders), (None, folds, orders), ([kind], folds, orders)]:
            self.assertIs(is_refusal(notice, ["cross"], (0, thing)), False, thing)


def tupled_values(orders):
    """A dict with tuples for its lists."""
    return {place: tupled(order) for place, order in orders.items()}


class WrongTest(unittest.TestCase):
    def test_bad_notice(self):
        for thing in [*no_boards()[:-1], F]:
            raises_thing(self, BadNotice, thing, refusal, thing, None)
            raises_thing(self, BadNotice, thing, is_refusal, thing, None, None)

    def test_bad_words(self):
        for call in [lambda words: refusal(WISHED, words), lambda words: is_refusal(WISHED, words, None)]:
            for words, index in [(None, 0), ("cross", 0), ({}, 0), ([], 0), (["cross"], 1), (["none", "none", "none"], 3),
                                 (RIGHT + ["none"], 4), (RIGHT + [None, None], 4), (["apart"], 0), (["cross", "cross"], 1),
                                 (["none", "apart", "Apart"], 2), (["none", None], 1), (["cross", "none", "cross", 1], 2),
                                 (["none", "none", "none", ["none"]], 3), (["cross", "apart", ""], 2)]:
                raises_with(self, BadWords, {"index": index}, call, words)
            for thing in odd_things():
                raises_with(self, BadWords, {"index": 0}, call, [thing, *RIGHT])
                raises_with(self, BadWords, {"index": 3}, call, [*RIGHT[:3], thing])

    def test_told_new_and_unchanged(self):
        for words in [["none", *RIGHT[1:]], ["cross", "apart", "apart", "apart"]]:
            told_new(self, lambda: refusal(WISHED, words))
            unchanged(self, refusal, WISHED, words)
            unchanged(self, is_refusal, WISHED, words, listed(refusal(WISHED, words)))


if __name__ == "__main__":
    unittest.main()

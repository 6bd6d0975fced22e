"""Points 71 and 74: codes told back from tables, or what is wrong with these."""

import unittest
from itertools import product
from random import Random

from byhand import flat_board, pinned_boards, random_board
from mustcross.bothways import has_cross
from mustcross.codes import all_codes, board_for, code
from mustcross.errors import BadRim, BadTable
from mustcross.rimcounts import counts
from mustcross.toldback import code_of, table_fault
from support import (EMPTY, F, N, W, Z, board, odd_things, raises_thing, raises_with, small_boards, told_new, tupled,
                     unchanged)


def fault_by_hand(table):
    """What is wrong with a list of lists of numbers, each one fewer than all of them."""
    many = len(table)

    def told(at, long):
        return 0 if long in (0, many) else table[at % many][long - 1]

    faults = [("pin", at) for at in range(many) if many > 1 and told(at, 1) > 1]
    faults += [("side", at, long) for at in range(many) for long in range(1, many)
               if told(at, long) != told(at + long, many - long)]
    for at in range(many):
        for to in range(at + 1, many):
            if told(at, to - at) + told(at + 1, to - at) < told(at + 1, to - at - 1) + told(at, to - at + 1):
                faults.append(("between", at, to))
    return faults[0] if faults else None


def tables_of_boards(rim):
    """The tables of all boards with a rim, by all codes."""
    return [counts(board_for(rim, rings)) for rings in all_codes(rim)]


class TableTest(unittest.TestCase):
    def look(self, rim, table):
        """Just one of a fault, and a board with this table; whether there is a board."""
        fault = table_fault(table)
        self.assertEqual(fault, fault_by_hand(table))
        if fault is not None:
            raises_thing(self, BadTable, table, code_of, rim, table)
            return False
        of = board_for(rim, code_of(rim, table))
        self.assertEqual(counts(of), table)
        self.assertIs(has_cross(of), False)
        return True

    def test_examples(self):
        self.assertEqual(table_fault([[1, 0, 1]] * 4), ("between", 0, 2))
        self.assertEqual(code_of(list("abcd"), [[1, 1, 1]] * 4), [["a", "b", "c", "d"]])
        self.assertEqual(code_of(list("abcd"), counts(F)), [["a", "b", "d", "c"]])

    def test_tables_of_boards(self):
        for of in [F, N, W, Z, EMPTY, board("p", "", "p"), *small_boards(80, 7, 211), *pinned_boards(60, 8, 212),
                   random_board(1, 40, 90, 16), flat_board(1, 24, 16, 80)]:
            table = counts(of)
            self.assertIsNone(table_fault(table))
            self.assertIsNone(table_fault(tupled(table)))
            self.assertEqual(code_of(of.rim(), table), code(of))
            self.assertEqual(code_of(tuple(of.rim()), tupled(table)), code(of))

    def test_no_pin_and_one(self):
        self.assertIsNone(table_fault([]))
        self.assertIsNone(table_fault([[]]))
        self.assertEqual(code_of([], ()), [])
        self.assertEqual(code_of(["p"], [[]]), [["p"]])
        for thing in [[[0]], [[], []], [[0], []], [[0, 0], [0, 0]], [[], [0]]]:
            self.assertEqual(table_fault(thing), ("form",))

    def test_all_tables_of_two_and_three_pins(self):
        for many in (2, 3):
            rim = list("bca"[:many])
            there = tables_of_boards(rim)
            for row in product(range(3), repeat=many * (many - 1)):
                table = [list(row[at * (many - 1):(at + 1) * (many - 1)]) for at in range(many)]
                self.assertEqual(self.look(rim, table), table in there)

    def test_all_tables_of_four_and_some_of_five_pins_whose_sides_are_alike(self):
        there = tables_of_boards(list("abcd"))
        for a, b, c, d, ab, bc in product(range(2), range(2), range(2), range(2), range(4), range(4)):
            table = [[a, ab, d], [b, bc, a], [c, ab, b], [d, bc, c]]
            self.assertEqual(self.look(list("abcd"), table), table in there)
        there = tables_of_boards(list("abcde"))
        seen = 0
        for a, b, c, d, e in [(1, 1, 1, 1, 1), (1, 1, 0, 1, 1), (0, 0, 1, 1, 1)]:
            for ab, bc, cd, de, ea in product(range(3), repeat=5):
                table = [[a, ab, de, e], [b, bc, ea, a], [c, cd, ab, b], [d, de, bc, c], [e, ea, cd, d]]
                there_is = self.look(list("abcde"), table)
                self.assertEqual(there_is, table in there)
                seen += there_is
        self.assertGreater(seen, 20)

    def test_tables_with_one_number_otherwise(self):
        chance = Random(3)
        seen = set()
        for of in [*pinned_boards(40, 8, 213), flat_board(2, 10, 12, 80)]:
            for _ in range(15):
                table = counts(of)
                row = chance.choice(table)
                row[chance.randrange(len(row))] = chance.choice([0, 1, 2, 3, 10 ** 20])
                seen.add(self.look(of.rim(), table))
                seen.add(table_fault(table) and table_fault(table)[0])
        self.assertLessEqual({True, False, "pin", "side"}, seen)

    def test_any_object(self):
        for thing in [*[thing for thing in odd_things() if thing not in ([], (), [[]], ((),))], [[1, 1], [1, 1]],
                      [[1], [1], [1]], [[1], "1"], [[1], [True]], [[False], [False]], [[1], [-1]], [[1], [None]],
                      [[1], {0: 1}], {0: [1], 1: [1]}, [[1], [[1]]], [[1], ["1"]], [[1], 1], ["", ""]]:
            self.assertEqual(table_fault(thing), ("form",), thing)
            raises_thing(self, BadTable, thing, code_of, ["a", "b"], thing)

    def test_first_faults(self):
        self.assertEqual(table_fault([[0], [2]]), ("pin", 1))
        self.assertEqual(table_fault([[1], [0]]), ("side", 0, 1))
        self.assertEqual(table_fault([[1, 1, 1], [1, 2, 1], [1, 1, 1], [1, 3, 1]]), ("side", 1, 2))
        self.assertEqual(table_fault([[1, 3, 1], [1, 2, 1], [1, 3, 1], [1, 2, 1]]), ("between", 0, 1))
        self.assertEqual(table_fault([[1, 3, 1], [1, 2, 0], [1, 3, 1], [2, 2, 1]]), ("pin", 3))

    def test_order_of_errors(self):
        for rim, index in [(None, 0), (["a", "a"], 1), (["a", "tie"], 1), ("ab", 0)]:
            raises_with(self, BadRim, {"index": index}, code_of, rim, None)
        for table in [counts(W), [], [[]], [[0, 0], [0, 0], [0, 0]], [[1], [0]]]:
            raises_thing(self, BadTable, table, code_of, ["a", "b"], table)

    def test_told_new_and_unchanged(self):
        told_new(self, lambda: code_of(N.rim(), counts(N)))
        unchanged(self, code_of, N.rim(), counts(N))
        unchanged(self, table_fault, [[1, 0, 1]] * 4)


if __name__ == "__main__":
    unittest.main()

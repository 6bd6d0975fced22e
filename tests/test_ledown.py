"""Points 65 and 66: boards led down to two ties that cross."""

import unittest

from byhand import (alternates, crosses_by_hand, flat_board, grid, hung_ways, is_picture_of, pinned_boards,
                    random_board)
from mustcross.boards import Board
from mustcross.changed import drawn_together, with_tie, without, without_tie
from mustcross.errors import BadBoard
from mustcross.ledown import is_led_down, led_down
from mustcross.pictures import picture
from support import (EMPTY, F, N, W, Z, board, listed, no_boards, odd_things, raises_thing, small_boards, told_new,
                     unchanged)

WX = with_tie(W, "a", "c")
STEPS = [("tie", "a", "x"), ("tie", "c", "x"), ("draw", "b", "x")]
BARE = board("a b c d", "a c, b d", "a b c d")
CALLS = {"tie": without_tie, "place": without, "draw": drawn_together}


def leads_by_hand(of, steps):
    """Whether steps, each of which can be done, lead to just two ties that cross."""
    for word, *row in steps:
        of = CALLS[word](of, *row)
    places, ties = of.places(), of.ties()
    return (len(places) == 4 and sorted(of.rim()) == places and len(ties) == 2
            and alternates(of.rim(), ties[0], ties[1]))


class LedDownTest(unittest.TestCase):
    def look(self, of):
        """Just one of steps down and a picture, each right; whether there are steps."""
        steps, other = led_down(of), picture(of)
        self.assertNotEqual(steps is None, other is None)
        if steps is None:
            self.assertTrue(is_picture_of(of, other))
            return False
        self.assertTrue(isinstance(steps, list) and all(isinstance(step, tuple) for step in steps))
        self.assertTrue(leads_by_hand(of, steps))
        self.assertTrue(all(step[1] < step[2] for step in steps if step[0] != "place"))
        turned = [[step[0], *step[:0:-1]] for step in steps]
        for thing in [steps, tuple(steps), listed(steps), turned]:
            self.assertIs(is_led_down(of, thing), True)
        self.assertIs(is_led_down(of, steps[:-1]), len(steps) == 0)
        self.assertIs(is_led_down(of, steps[1:]), len(steps) == 0)
        return True

    def test_examples(self):
        self.assertIs(is_led_down(WX, STEPS), True)
        self.assertTrue(self.look(WX))
        self.assertEqual(led_down(BARE), [])
        self.assertIs(is_led_down(BARE, []), True)
        self.assertIs(is_led_down(BARE, ()), True)

    def test_by_all_ways(self):
        seen = [0, 0]
        for of in [F, N, W, Z, EMPTY, *small_boards(60, 7, 191), *pinned_boards(200, 7, 192)]:
            there = crosses_by_hand(of)
            self.assertEqual(self.look(of), there)
            seen[there] += 1
        self.assertGreater(min(seen), 50)

    def test_great_boards(self):
        for of in [random_board(1, 40, 100, 6), random_board(2, 40, 400, 16), random_board(3, 40, 60, 40),
                   grid(6, 6, [(2, 2)], "corners"), hung_ways(1, 12, 10, 6), hung_ways(2, 2, 2, 12)]:
            self.assertTrue(self.look(of))
        for of in [flat_board(1, 24, 16, 90), flat_board(2, 20, 12, 100, 2)]:
            self.assertFalse(self.look(of))

    def test_either_place_of_a_tie_first(self):
        self.assertIs(is_led_down(WX, [("tie", "x", "a"), ["tie", "x", "c"], ("draw", "x", "d")]), True)
        self.assertIs(is_led_down(WX, [["draw", "x", "b"], ["tie", "b", "a"], ["tie", "c", "b"]]), True)

    def test_one_thing_otherwise_in_places(self):
        more = board("a b c d e f", "a c, b d, e f, a e", "a e b c d")
        steps = [("place", "e"), ("place", "f")]
        self.assertIs(is_led_down(more, steps), True)
        for at, step in enumerate(steps):
            for thing in [*odd_things(), "q", "a", ["e"], "places", "tie"]:
                for row in [(step[0], thing), (thing, step[1]), (*step, thing)]:
                    self.assertIs(is_led_down(more, [*steps[:at], row, *steps[at + 1:]]), False, row)
                self.assertIs(is_led_down(more, [*steps, ("place", thing)]), False)
                self.assertIs(is_led_down(more, [("place", thing), *steps]), False)

    def test_other_ways_down(self):
        self.assertIs(is_led_down(N, [("tie", "y", "x"), ("draw", "x", "c"), ("draw", "y", "b")]), True)
        more = board("a b c d e f", "a c, b d, e f, a e", "a e b c d")
        self.assertIs(is_led_down(more, [("place", "e"), ("place", "f")]), True)
        self.assertIs(is_led_down(more, [("draw", "e", "f"), ("place", "e")]), True)
        self.assertIs(is_led_down(more, [("tie", "e", "f"), ("place", "f"), ("place", "e")]), True)

    def test_any_object(self):
        for thing in [*odd_things(), "", STEPS[:2], STEPS[1:], [*STEPS, ("tie", "a", "c")], [*STEPS, ("place", "a")],
                      [*STEPS, STEPS[0]], [*STEPS, ("tie", "b", "x")], [*STEPS, ()], [STEPS], [*STEPS, None],
                      {0: STEPS[0], 1: STEPS[1], 2: STEPS[2]}, [*STEPS[:2], "dbx"], [("place", "x")]]:
            self.assertIs(is_led_down(WX, thing), False, thing)
        self.assertIs(is_led_down(WX, [("tie", "a", "c")]), False)
        self.assertIs(is_led_down(board("a b c d", "a b, c d", "a b c d"), []), False)
        self.assertIs(is_led_down(board("a b c d", "a c, c b", "a b c d"), []), False)
        self.assertIs(is_led_down(board("a b c d", "a c, b d, a b", "a b c d"), []), False)
        self.assertIs(is_led_down(board("a b c d e", "a c, b d", "a b c d"), []), False)
        self.assertIs(is_led_down(board("a b c d", "a c, b d", "a b c"), []), False)

    def test_one_thing_otherwise_in_each_part(self):
        for at, step in enumerate(STEPS):
            for part in range(3):
                for thing in [*odd_things(), "q", ["a"], F, "ties", "rim"]:
                    row = list(step)
                    row[part] = thing
                    self.assertIs(is_led_down(WX, [*STEPS[:at], row, *STEPS[at + 1:]]), False, row)
            for row in [step[:2], (*step, "a"), ("place", *step[1:]), (step[0].upper(), *step[1:])]:
                self.assertIs(is_led_down(WX, [*STEPS[:at], row, *STEPS[at + 1:]]), False, row)

    def test_steps_that_cannot_be_done_when_their_turn_comes(self):
        more = board("a b c d e", "a c, b d, a b, a e", "a b c d e")
        self.assertIs(is_led_down(more, [("tie", "a", "b"), ("place", "e")]), True)
        for steps in [[("draw", "a", "b"), ("place", "e")], [("draw", "e", "a"), ("tie", "a", "b")],
                      [("tie", "a", "b"), ("tie", "a", "b"), ("place", "e")], [("place", "e"), ("place", "e")],
                      [("place", "e"), ("tie", "a", "e"), ("tie", "a", "b")], [("tie", "c", "d"), ("place", "e")],
                      [("tie", "a", "a"), ("tie", "a", "b"), ("place", "e")], [("draw", "c", "d"), ("place", "e")],
                      [("draw", "a", "a"), ("tie", "a", "b"), ("place", "e")]]:
            self.assertIs(is_led_down(more, steps), False, steps)

    def test_errors_told_new_and_unchanged(self):
        for thing in no_boards():
            raises_thing(self, BadBoard, thing, led_down, thing)
            raises_thing(self, BadBoard, thing, is_led_down, thing, None)
        told_new(self, lambda: led_down(WX))
        unchanged(self, is_led_down, WX, listed(STEPS))
        again = Board(N.places()[::-1], N.ties()[::-1], N.rim())
        self.assertEqual(led_down(again), led_down(N))


if __name__ == "__main__":
    unittest.main()

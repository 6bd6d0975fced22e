"""Points 75 to 78 and 80: boards put side by side, and crosses led on."""

import unittest
from itertools import combinations, permutations
from random import Random

from byhand import (alternates, crosses_by_hand, flat_board, grid, is_cross_of, is_way, joined_by_hand, parted_rim,
                    random_board, with_rim)
from mustcross.beside import beside, common_stretch, held_back, led_on, ways_on
from mustcross.boards import Board
from mustcross.bothways import has_cross
from mustcross.crosses import cross
from mustcross.errors import BadBoard, BadCross, NotBeside
from mustcross.partings import is_parting
from support import (EMPTY, F, N, W, Z, all_ways, board, no_boards, odd_things, raised, raises_thing, told_new,
                     tupled, unchanged)

A = board("a b p q", "a p, b q", "p q a b")
B = board("c d p q", "c p, d q", "q p c d")
TURNED = board("c d p q", "c p, d q", "q p d c")
CALLS = [beside, ways_on, held_back, lambda one, other: led_on(one, other, None)]


def renamed(of, names, rim):
    """The board with other names for some places, and another rim."""
    told = {place: names.get(place, place) for place in of.places()}
    return Board(list(told.values()), [(told[one], told[other]) for one, other in of.ties()], rim)


def some_beside(seed, most=6):
    """Two small boards that are beside one another, and the stretch as it stands on the one's rim."""
    chance = Random(seed)
    stretch = ["p", "q", "r"][:chance.randint(1, 3)]
    chance.shuffle(stretch)
    found = []
    for letters, row in [("abcdef", stretch), ("stuvwx", stretch[::-1])]:
        own = list(letters[:chance.randint(1, max(1, most - len(row)))])
        pins = chance.sample(own, chance.randint(1, min(3, len(own))))
        rim = row + pins
        at = chance.randrange(len(rim))
        share = chance.choice([30, 50, 70])
        ties = [tie for tie in combinations(own + row, 2) if chance.randrange(100) < share]
        found.append(Board(own + row, ties, rim[at:] + rim[:at]))
    return (*found, stretch)


PAIRS = [some_beside(seed) for seed in range(240)]
CROSSED = [row for row in [some_beside(seed) for seed in range(300, 1500)] if cross(row[1]) is not None]


class CommonTest(unittest.TestCase):
    def test_examples(self):
        self.assertEqual(common_stretch(A, B), ["p", "q"])
        self.assertEqual(common_stretch(B, A), ["q", "p"])

    def test_some_boards(self):
        for one, other, stretch in PAIRS:
            self.assertEqual(common_stretch(one, other), stretch)
            self.assertEqual(common_stretch(other, one), stretch[::-1])

    def by_hand(self, one, other):
        """The places in common, by trying all rows of them."""
        common = sorted(set(one.places()) & set(other.places()))
        fitting = []
        for row in permutations(common):
            stands = [any(list(order) == (rim + rim)[at:at + len(row)] for at in range(len(rim)))
                      for order, rim in [(row, one.rim()), (row[::-1], other.rim())]]
            if row and all(stands) and len(row) < min(len(one.rim()), len(other.rim())):
                fitting.append(list(row))
        return fitting[0] if fitting else None

    def test_by_hand(self):
        chance = Random(1)
        seen = [0, 0]
        for _ in range(1500):
            rims = [chance.sample(letters, chance.randint(1, 5)) for letters in ("abcpq", "defpq")]
            boards = [Board(sorted({*rim, *chance.sample("pq", chance.randint(0, 1))}), [], rim) for rim in rims]
            due = self.by_hand(*boards)
            self.assertEqual(common_stretch(*boards), due)
            seen[due is None] += 1
        self.assertGreater(min(seen), 100)

    def test_edges(self):
        one = board("a p", "a p", "a p")
        self.assertEqual(common_stretch(one, board("p z", "", "p z")), ["p"])
        self.assertEqual(common_stretch(board("a b p q r", "", "q a b r p"), board("z p q r", "", "r z q p")),
                         ["r", "p", "q"])
        for first, second in [(one, board("z p", "", "z")), (one, board("p", "", "p")), (board("p", "", "p"), one),
                              (one, board("a p", "", "a p")), (one, one), (one, EMPTY), (EMPTY, EMPTY), (one, Z),
                              (board("a b p q", "", "p a q b"), board("c p q", "", "q p c")),
                              (board("a p q", "", "p q a"), board("c p q", "", "p q c")),
                              (board("a p q", "", "p q a"), board("c d p q", "", "p c q d")),
                              (board("a p x", "", "p a"), board("c p x", "", "p c")),
                              (board("a b p x", "", "p a b"), board("c d p x", "", "p c d")),
                              (board("a b p x", "", "p x a b"), board("c d p x", "", "p c d")),
                              (board("a b p x", "", "p a b"), board("c d p x", "", "x p c d")),
                              (board("a b", "", "a b"), board("c d", "", "c d")),
                              (board("a p q r", "", "p q r a"), board("c p q r", "", "q p r c"))]:
            self.assertIsNone(common_stretch(first, second))
            for call in CALLS:
                raised(self, NotBeside, call, first, second)


class BesideTest(unittest.TestCase):
    def test_examples(self):
        self.assertEqual(beside(A, B), board("a b c d p q", "a p, b q, c p, d q", "a b c d"))
        self.assertEqual(beside(A, TURNED).rim(), ["a", "b", "d", "c"])
        self.assertTrue(crosses_by_hand(A) and not crosses_by_hand(B) and crosses_by_hand(TURNED))
        self.assertFalse(crosses_by_hand(beside(A, TURNED)))
        self.assertTrue(crosses_by_hand(beside(A, B)))

    def test_places_ties_and_rim(self):
        for one, other, stretch in PAIRS:
            whole = beside(one, other)
            self.assertEqual(whole.places(), sorted({*one.places(), *other.places()}))
            self.assertEqual(whole.ties(), sorted({*one.ties(), *other.ties()}))
            ours, theirs = [], []
            for rim, last, found in [(one.rim(), stretch[-1], ours), (other.rim(), stretch[0], theirs)]:
                at = rim.index(last)
                found += [pin for pin in rim[at + 1:] + rim[:at] if pin not in stretch]
            self.assertEqual(whole.rim(), ours + theirs)

    def test_without_a_cross_the_whole_has_none(self):
        seen = 0
        for one, other, _ in PAIRS:
            if not crosses_by_hand(one) and not crosses_by_hand(other):
                self.assertFalse(crosses_by_hand(beside(one, other)))
                seen += len(beside(one, other).rim()) > 3
        self.assertGreater(seen, 30)

    def test_great_boards(self):
        one = flat_board(1, 20, 10, 90, 1)
        other = renamed(flat_board(2, 18, 8, 90), {}, [])
        names = {place: "r" + place for place in other.places()}
        names.update({"q0": "q4", "q1": "q3", "q2": "q2"})
        other = renamed(other, names, ["q4", "q3", "q2", *[f"rq{at}" for at in range(3, 8)]])
        self.assertEqual(common_stretch(one, other), ["q2", "q3", "q4"])
        whole = beside(one, other)
        self.assertEqual(whole.rim(), ["q5", "q6", "q7", "q8", "q9", "q0", "q1", *[f"rq{at}" for at in range(3, 8)]])
        self.assertIs(has_cross(whole), False)


class WaysOnTest(unittest.TestCase):
    def test_examples(self):
        self.assertEqual(ways_on(B, A), [["q", "d"], ["p", "c"]])
        self.assertEqual(ways_on(A, B), [["p", "a"], ["q", "b"]])
        self.assertIsNone(held_back(B, A))

    def test_just_one_by_all_ways(self):
        seen = [0, 0]
        for one, other, stretch in PAIRS:
            others = [pin for pin in one.rim() if pin not in stretch]
            ways, lot = ways_on(one, other), held_back(one, other)
            self.assertNotEqual(ways is None, lot is None)
            due = any(joined_by_hand(one, list(zip(stretch, row))) for row in permutations(others, len(stretch)))
            self.assertEqual(ways is not None, due)
            seen[due] += 1
            if due:
                self.assertTrue(all(isinstance(way, list) and is_way(one, way) for way in ways))
                self.assertEqual([way[0] for way in ways], stretch)
                self.assertLessEqual({way[-1] for way in ways}, set(others))
                places = [place for way in ways for place in way]
                self.assertEqual(len(set(places)), len(places))
            else:
                self.assertEqual(lot, sorted(set(lot)))
                self.assertLess(len(lot), len(stretch))
                self.assertTrue(all(set(way) & set(lot) for way in all_ways(one, stretch, others)))
        self.assertGreater(min(seen), 40)

    def test_great_boards(self):
        one = grid(5, 6)
        for many in (3, 5):
            stretch = one.rim()[:many]
            other = Board([*stretch, "z"], [(pin, "z") for pin in stretch], [*stretch[::-1], "z"])
            ways = ways_on(one, other)
            self.assertEqual([way[0] for way in ways], stretch)
            self.assertEqual(held_back(other, one), ["z"])
            self.assertTrue(is_parting(other, stretch, ["z"], held_back(other, one)))


class LedOnTest(unittest.TestCase):
    def look(self, one, other, ways, told):
        """Whether a cross of the whole is led on as it should be."""
        whole = beside(one, other)
        on = {way[0]: way for way in ways_on(one, other)}
        due = []
        for way in cross(other) if told is None else told:
            way = list(way)
            for _ in range(2):
                way = (way + on[way[-1]][1:] if way[-1] in on else way)[::-1]
            due.append(min(way, way[::-1]))
        found = led_on(one, other, told)
        self.assertEqual(found, tuple(sorted(due)))
        self.assertTrue(is_cross_of(whole, found))
        self.assertTrue(alternates(whole.rim(), *[(way[0], way[-1]) for way in found]))

    def test_examples(self):
        self.assertEqual(led_on(B, A, cross(A)), (["a", "p", "c"], ["b", "q", "d"]))
        self.assertEqual(led_on(B, A, [["q", "b"], ("p", "a")]), (["a", "p", "c"], ["b", "q", "d"]))
        self.assertIsNone(led_on(A, TURNED, cross(TURNED)))

    def test_just_where_it_is_due(self):
        seen = {}
        for one, other, _ in PAIRS + CROSSED:
            ways = cross(other)
            if ways is not None:
                due = not crosses_by_hand(one) and ways_on(one, other) is not None
                found = led_on(one, other, ways)
                self.assertEqual(found is not None, due)
                if due:
                    for told in [ways, ways[::-1], [way[::-1] for way in ways], tupled(ways)]:
                        self.look(one, other, ways, told)
                        self.assertEqual(led_on(one, other, told), found)
                seen[due] = seen.get(due, 0) + 1
            if not crosses_by_hand(one) and ways_on(one, other) is not None:
                self.assertEqual(crosses_by_hand(beside(one, other)), ways is not None)
        self.assertGreater(min(seen.values()), 10)

    def test_ways_over_pins_of_the_stretch(self):
        other = board("p q r c d", "p q, q c, d r", "r q p d c")
        one = board("a b e p q r", "a r, b q, e p", "p q r a b e")
        self.assertEqual(common_stretch(one, other), ["p", "q", "r"])
        self.assertEqual(ways_on(one, other), [["p", "e"], ["q", "b"], ["r", "a"]])
        ways = [["p", "q", "c"], ["d", "r"]]
        self.assertEqual(led_on(one, other, ways), (["a", "r", "d"], ["c", "q", "p", "e"]))
        self.look(one, other, ways, ways)

    def test_both_ends_common_and_none(self):
        other = board("p q r s c", "p r, q s", "s r q p c")
        one = board("a b e f p q r s", "a s, b r, e q, f p", "p q r s a b e f")
        self.assertEqual(led_on(one, other, cross(other)), (["a", "s", "q", "e"], ["b", "r", "p", "f"]))
        far = board("p a b c d", "a c, b d", "p a b c d")
        self.assertEqual(led_on(board("p z", "p z", "p z"), far, cross(far)), (["a", "c"], ["b", "d"]))
        self.assertIsNone(led_on(board("p z", "", "p z"), far, cross(far)))

    def test_bad_cross(self):
        for thing in [*odd_things(), (["p", "a"],), (["p", "a"], ["p", "b"]), (["p", "a"], ["q"]),
                      (["p", "a"], ["q", "b"], []), (["p", "b"], ["q", "a"]), cross(N)]:
            raises_thing(self, BadCross, thing, led_on, B, A, thing)
        raises_thing(self, BadCross, None, led_on, A, B, None)
        ways = cross(TURNED)
        raises_thing(self, BadCross, ways, led_on, A, B, ways)

    def test_great_boards(self):
        other = random_board(1, 30, 80, 12)
        stretch = other.rim()[4:6]
        full = parted_rim(6, [3, 2, 1, 4], 2)
        one = renamed(full, {"q0": stretch[1], "q1": stretch[0]}, [stretch[1], stretch[0], "q2", "q3", "q4", "q5"])
        self.assertEqual(common_stretch(one, other), stretch[::-1])
        self.look(one, other, cross(other), cross(other))


class WrongTest(unittest.TestCase):
    def test_order_of_errors(self):
        for call in [common_stretch, *CALLS]:
            for thing in no_boards():
                raises_thing(self, BadBoard, thing, call, thing, None)
                raises_thing(self, BadBoard, thing, call, F, thing)
        for call in CALLS:
            for one, other in [(F, F), (F, Z), (W, F), (N, with_rim(N, list("dcba")))]:
                raised(self, NotBeside, call, one, other)

    def test_told_new_and_unchanged(self):
        for call in [common_stretch, ways_on]:
            told_new(self, lambda: call(A, B))
        told_new(self, lambda: held_back(board("p q z", "p z, q z", "p q z"), board("p q a", "", "q p a")))
        told_new(self, lambda: led_on(B, A, cross(A)))
        unchanged(self, led_on, B, A, [["p", "a"], ["q", "b"]])
        again = Board(B.places()[::-1], B.ties()[::-1], B.rim())
        self.assertEqual(ways_on(again, A), ways_on(B, A))


if __name__ == "__main__":
    unittest.main()

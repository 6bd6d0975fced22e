"""Points 4 and 5, and the interface's row of errors."""

import inspect
import unittest

from mustcross import errors
from mustcross.errors import CrossError

SHAPES = {
    "thing": "BadAnswer BadBoard BadCode BadCross BadDeed BadDrawing BadLaying BadName BadNotice "
             "BadNumber BadPiece BadPlace BadQuestion BadSession BadTable BadWays NoCount NoPin "
             "NoPlace SamePlace",
    "index": "BadLed BadLot BadPairs BadPlaces BadRim BadTies BadTold BadWishes BadWords",
    "first last": "BadStretch",
    "line sign": "BadText",
    "one other": "BothPins HasTie NoTie",
    "many": "FewPins",
    "place": "HangsByTwo IsPin",
    "ways": "HasCross",
    "question": "InUse IsWatched NotWatched",
    "question why": "WouldChange",
    "": "NoCross NotBeside NotWithin OtherRim",
}


class ErrorTest(unittest.TestCase):
    def rows(self):
        return [(getattr(errors, name), shape.split())
                for shape, names in SHAPES.items() for name in names.split()]

    def test_base(self):
        self.assertEqual(CrossError.__bases__, (ValueError,))
        self.assertIs(CrossError().__class__, CrossError)
        with self.assertRaises(ValueError):
            raise CrossError()

    def test_all_are_there_and_no_others(self):
        listed = {error.__name__ for error, _ in self.rows()} | {"CrossError"}
        there = {name for name, thing in vars(errors).items() if inspect.isclass(thing)}
        self.assertEqual(there, listed)
        self.assertEqual(len(listed), 47)

    def test_each_is_right_beneath(self):
        for error, _ in self.rows():
            self.assertEqual(error.__bases__, (CrossError,), error)
            self.assertEqual(error.__module__, "mustcross.errors")

    def test_parameters_in_order(self):
        for error, names in self.rows():
            if names:
                self.assertEqual(list(inspect.signature(error).parameters), names, error)

    def test_keeps_the_very_objects(self):
        for error, names in self.rows():
            things = [[name] for name in names]
            by_place = error(*things)
            by_name = error(**dict(zip(names, things)))
            self.assertEqual(set(vars(by_place)), set(names))
            for name, thing in zip(names, things):
                self.assertIs(getattr(by_place, name), thing, error)
                self.assertIs(getattr(by_name, name), thing, error)

    def test_keeps_any_object(self):
        for thing in [None, True, {}, [], lambda: 0, CrossError(), 10 ** 30]:
            self.assertIs(errors.BadText(thing, 1).line, thing)
            self.assertIs(errors.WouldChange(question=1, why=thing).why, thing)
            self.assertIs(errors.BadPlaces(thing).index, thing)

    def test_each_is_caught_alone(self):
        rows = self.rows()
        for error, names in rows:
            made = error(*names)
            self.assertEqual([other for other, _ in rows if isinstance(made, other)], [error])


if __name__ == "__main__":
    unittest.main()

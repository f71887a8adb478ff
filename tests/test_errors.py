"""0.3: the errors and their fields."""

import copy
import pickle
import unittest

from everypiece import errors
from everypiece.errors import PieceError
from helper import nested, odd_things

WITHOUT_FIELD = (
    "NoWord", "NoPlace", "NoEdit", "NoNames", "NoText", "NoLevel", "NoNumber", "NothingDone", "NoRow", "NoSign",
    "NoClass", "NoMachine", "NoState", "NoSigns", "NoPattern", "NoGaps", "NoHoles", "NoLine", "NoCut", "NoLines",
    "NoDisk", "NoAsk",
)
WITH_FIELD = {
    "BadLibrary": "part", "BadEdits": "index", "BadWeb": "index", "TooMany": "most", "NoPhrases": "index",
    "BadPattern": "place", "NoName": "name",
}
ALL = list(WITHOUT_FIELD) + list(WITH_FIELD)


def made(name, thing=None):
    kind = getattr(errors, name)
    return kind(thing) if name in WITH_FIELD else kind()


class ErrorsTest(unittest.TestCase):

    def test_there_are_29_and_no_others(self):
        found = [name for name, thing in vars(errors).items() if isinstance(thing, type)]
        self.assertEqual(sorted(found), sorted(ALL + ["PieceError"]))
        self.assertEqual(len(ALL), 29)

    def test_each_derives_directly_from_piece_error(self):
        self.assertEqual(PieceError.__bases__, (ValueError,))
        for name in ALL:
            self.assertEqual(getattr(errors, name).__bases__, (PieceError,))

    def test_each_is_of_its_own_class_and_of_no_other(self):
        for name in ALL:
            error = made(name)
            self.assertIsInstance(error, ValueError)
            self.assertEqual([other for other in ALL if isinstance(error, getattr(errors, other))], [name])

    def test_a_field_keeps_the_very_thing(self):
        things = odd_things() + [nested(40, tuple), nested(40, list), "long", [1, [2, (3, None)]]]
        for name, field in WITH_FIELD.items():
            for thing in things:
                error = made(name, thing)
                self.assertIs(getattr(error, field), thing)
                self.assertEqual(list(vars(error)), [field])

    def test_without_fields_nothing_is_kept(self):
        for name in WITHOUT_FIELD:
            self.assertEqual(vars(made(name)), {})

    def test_each_is_made_with_just_its_fields(self):
        for name in ALL:
            kind = getattr(errors, name)
            wrong = [(), (1, 2)] if name in WITH_FIELD else [(1,), (1, 2)]
            for args in wrong:
                with self.assertRaises(TypeError):
                    kind(*args)

    def test_each_is_caught_by_its_own_class_with_its_field(self):
        for name in ALL:
            thing = [name]
            with self.assertRaises(getattr(errors, name)) as caught:
                raise made(name, thing)
            if name in WITH_FIELD:
                self.assertIs(getattr(caught.exception, WITH_FIELD[name]), thing)

    def test_each_is_caught_by_piece_error_and_value_error(self):
        for name in ALL:
            for kind in (PieceError, ValueError):
                with self.assertRaises(kind) as caught:
                    raise made(name)
                self.assertIs(type(caught.exception), getattr(errors, name))

    def test_none_is_caught_by_another_class(self):
        for name in ALL:
            for other in ALL:
                if other != name:
                    self.assertFalse(issubclass(getattr(errors, name), getattr(errors, other)))

    def test_they_can_be_copied(self):
        for name in ALL:
            error = made(name, (1, "a"))
            for other in (copy.copy(error), copy.deepcopy(error), pickle.loads(pickle.dumps(error))):
                self.assertIs(type(other), type(error))
                self.assertEqual(vars(other), vars(error))

    def test_an_error_is_equal_to_no_other(self):
        for name in ALL:
            self.assertNotEqual(made(name), made(name).args)
            self.assertNotEqual(made(name), None)


if __name__ == "__main__":
    unittest.main()

"""[5]: the errors of the package."""

import unittest

from homeshold import errors
from homeshold.errors import HomeError

WITHOUT_FIELDS = (
    "NoMembers", "NoText", "NoPieces", "NoTable", "NoDeed", "NoName", "NoHomeNumber", "NoLetter",
    "NoOp", "Busy", "NoArea", "NoNumber", "NoStand", "NoDisk", "NoEvent", "NoHand", "NoHistory",
    "NoThing", "NoItems", "NoPrime", "NoNumbers", "NoPlaces", "NoValues", "NoPolynomial", "NoStamp",
    "Unlet", "NoDay",
)
FIELDS = {"NoItem": "index", "BadText": "place", "TooMany": "most"}
ALL_NAMES = WITHOUT_FIELDS + tuple(FIELDS)


def kind(name):
    return getattr(errors, name)


class TestErrors(unittest.TestCase):
    def test_thirty_besides_the_common_one(self):
        found = [
            name for name, thing in vars(errors).items()
            if isinstance(thing, type) and thing is not HomeError
        ]
        self.assertEqual(len(ALL_NAMES), 30)
        self.assertEqual(sorted(found), sorted(ALL_NAMES))

    def test_home_error(self):
        self.assertEqual(HomeError.__bases__, (ValueError,))
        self.assertIsInstance(HomeError(), ValueError)
        with self.assertRaises(ValueError):
            raise HomeError()

    def test_each_is_a_direct_subclass(self):
        for name in ALL_NAMES:
            with self.subTest(name):
                self.assertEqual(kind(name).__bases__, (HomeError,))
                self.assertTrue(issubclass(kind(name), ValueError))
                self.assertEqual(kind(name).__name__, name)
                self.assertEqual(kind(name).__module__, "homeshold.errors")

    def test_none_is_a_subclass_of_another(self):
        for name in ALL_NAMES:
            for other in ALL_NAMES:
                if name != other:
                    self.assertFalse(issubclass(kind(name), kind(other)), (name, other))

    def test_without_fields(self):
        for name in WITHOUT_FIELDS:
            with self.subTest(name):
                error = kind(name)()
                self.assertIsInstance(error, HomeError)
                self.assertIsInstance(error, ValueError)
                self.assertIsInstance(str(error), str)
                for other in WITHOUT_FIELDS:
                    self.assertEqual(isinstance(error, kind(other)), name == other)

    def test_raised_and_caught(self):
        for name in WITHOUT_FIELDS:
            with self.assertRaises(kind(name)):
                raise kind(name)()
        for name in FIELDS:
            with self.assertRaises(kind(name)):
                raise kind(name)(3)

    def test_fields_keep_whatever_it_is(self):
        worths = (
            0, 7, -1, 10 ** 29, "", "word", "two\nrows", [], [1, [2]], {}, {"a": [1]}, None, True,
            False, (), (1, ("x", None)), HomeError(), [{(1, 2): None}],
        )
        for name, field in FIELDS.items():
            for worth in worths:
                with self.subTest(name=name, worth=worth):
                    error = kind(name)(worth)
                    self.assertIs(getattr(error, field), worth)
                    self.assertIsInstance(error, HomeError)
                    self.assertIsInstance(error, ValueError)
                    self.assertIsInstance(str(error), str)

    def test_fields_are_taken_once(self):
        for name in FIELDS:
            with self.assertRaises(TypeError):
                kind(name)()
            with self.assertRaises(TypeError):
                kind(name)(1, 2)

    def test_an_error_sees_what_is_done_later(self):
        for name, field in FIELDS.items():
            rows = [1]
            error = kind(name)(rows)
            rows.append(2)
            self.assertEqual(getattr(error, field), [1, 2])

    def test_fields_are_each_object_s_own(self):
        for name, field in FIELDS.items():
            first, second = kind(name)(1), kind(name)(2)
            self.assertEqual((getattr(first, field), getattr(second, field)), (1, 2))


if __name__ == "__main__":
    unittest.main()

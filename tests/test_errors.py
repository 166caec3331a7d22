"""The errors of [3] and of the interface."""

import unittest

from heldtones import errors
from heldtones.errors import ToneError

NAMES = [
    "InvalidName", "DoubleName", "DoubleTone", "InvalidTone", "UnknownChord", "UnknownChange",
    "WrongSong", "WrongNumbers", "NotEven", "UnlikeParts", "NothingToUndo", "Unreadable",
]
CLASSES = [getattr(errors, name) for name in NAMES]


class ErrorsTest(unittest.TestCase):
    def test_there_are_thirteen_of_their_own_names(self):
        self.assertEqual(len(set(CLASSES + [ToneError])), 13)
        for name, error in zip(NAMES + ["ToneError"], CLASSES + [ToneError]):
            self.assertEqual((error.__name__, error.__module__), (name, "heldtones.errors"))

    def test_bases(self):
        self.assertEqual(ToneError.__bases__, (ValueError,))
        for error in CLASSES:
            self.assertEqual(error.__bases__, (ToneError,), error)

    def test_no_class_is_caught_as_another_one(self):
        for error in CLASSES:
            for other in CLASSES:
                self.assertEqual(issubclass(error, other), error is other)

    def test_value_is_stored_itself(self):
        values = ["c", "", 0, -3, None, True, ("c", 1), ["c", [1]], {"c": 1}, object(), ToneError,
                  ToneError(1), ()]
        for error in CLASSES + [ToneError]:
            for value in values:
                self.assertIs(error(value).value, value)
                self.assertIs(error(value=value).value, value)

    def test_a_list_is_stored_as_it_is(self):
        told = [1, [2]]
        error = errors.WrongNumbers(told)
        told.append(3)
        self.assertIs(error.value, told)
        self.assertEqual(error.value, [1, [2], 3])

    def test_one_argument_is_needed(self):
        for error in CLASSES + [ToneError]:
            for arguments in [(), (1, 2)]:
                with self.assertRaises(TypeError):
                    error(*arguments)

    def test_they_are_raised_and_caught(self):
        for error in CLASSES + [ToneError]:
            for above in (error, ToneError, ValueError):
                with self.assertRaises(above) as caught:
                    raise error(("c", 1))
                self.assertEqual(caught.exception.value, ("c", 1))


if __name__ == "__main__":
    unittest.main()

"""Promise [3]: the error classes."""

import unittest

from handpiles import errors

NAMES = ["InvalidHand", "InvalidWay", "InvalidNumber", "InvalidIndex", "InvalidPiles",
         "NotFitting", "HandFull", "NothingToUndo", "Unreadable"]
ALL = ["PileError"] + NAMES
VALUES = [None, 0, -1, 10 ** 29, True, "", "a text", [], [[1], [2, [3]]], (), (1, [2]), {}, {"a": [1]}, object()]


class Errors(unittest.TestCase):

    def test_value_by_position(self):
        for name in ALL:
            for value in VALUES:
                self.assertIs(getattr(errors, name)(value).value, value)

    def test_value_by_name(self):
        for name in ALL:
            for value in VALUES:
                self.assertIs(getattr(errors, name)(value=value).value, value)

    def test_a_list_is_stored_itself_and_not_copied(self):
        for name in ALL:
            value = [[1]]
            error = getattr(errors, name)(value)
            value[0].append(2)
            value.append([])
            self.assertEqual(error.value, [[1, 2], []])

    def test_two_errors_share_nothing(self):
        for name in ALL:
            one = getattr(errors, name)(1)
            other = getattr(errors, name)(value=2)
            self.assertEqual((one.value, other.value), (1, 2))

    def test_takes_just_one_argument(self):
        for name in ALL:
            for args, named in (((), {}), ((1, 2), {}), ((1,), {"value": 1}), ((), {"hand": 1})):
                with self.assertRaises(TypeError):
                    getattr(errors, name)(*args, **named)

    def test_bases(self):
        self.assertEqual(errors.PileError.__bases__, (ValueError,))
        for name in NAMES:
            self.assertEqual(getattr(errors, name).__bases__, (errors.PileError,))

    def test_caught_as_itself_and_its_bases_alone(self):
        for name in NAMES:
            error = getattr(errors, name)(1)
            self.assertIsInstance(error, errors.PileError)
            self.assertIsInstance(error, ValueError)
            for other in NAMES:
                self.assertEqual(isinstance(error, getattr(errors, other)), name == other)
        for name in NAMES:
            self.assertNotIsInstance(errors.PileError(1), getattr(errors, name))

    def test_raised_and_caught(self):
        for name in ALL:
            for kind in (getattr(errors, name), errors.PileError, ValueError):
                value = [1]
                with self.assertRaises(kind) as caught:
                    raise getattr(errors, name)(value)
                self.assertIs(caught.exception.value, value)


if __name__ == "__main__":
    unittest.main()

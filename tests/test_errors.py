import unittest

from blotsure import errors
from helpers import NAMES


def class_of(name):
    return getattr(errors, name)


def is_taken_by(raised, taker):
    try:
        raise raised("why")
    except taker:
        return True
    except Exception:
        return False


class ErrorsTest(unittest.TestCase):
    def test_there_are_thirteen(self):
        self.assertEqual(len({class_of(name) for name in NAMES}), 13)

    def test_blot_error_stands_under_value_error(self):
        self.assertEqual(errors.BlotError.__bases__, (ValueError,))

    def test_each_is_taken_by_blot_error_and_value_error(self):
        for name in NAMES:
            with self.subTest(name):
                self.assertTrue(is_taken_by(class_of(name), errors.BlotError))
                self.assertTrue(is_taken_by(class_of(name), ValueError))

    def test_each_is_taken_by_itself_and_none_of_the_other_twelve(self):
        for name in NAMES:
            takers = [taker for taker in NAMES if is_taken_by(class_of(name), class_of(taker))]
            self.assertEqual(takers, [name])

    def test_none_takes_blot_error_itself(self):
        for name in NAMES:
            self.assertFalse(is_taken_by(errors.BlotError, class_of(name)))


if __name__ == "__main__":
    unittest.main()

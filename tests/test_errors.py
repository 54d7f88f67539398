"""The classes of refusals."""

import unittest

from redraft import errors
from redraft.errors import NoFit, NoRow, NoWord, RedraftError, TooLong


class Refusals(unittest.TestCase):
    def test_any_refusal_is_a_value_error(self):
        self.assertEqual(RedraftError.__bases__, (ValueError,))

    def test_each_stands_right_under_the_common_one(self):
        for refusal in (NoWord, TooLong, NoRow, NoFit):
            with self.subTest(refusal=refusal.__name__):
                self.assertEqual(refusal.__bases__, (RedraftError,))

    def test_they_are_defined_in_their_file(self):
        for name in ("RedraftError", "NoWord", "TooLong", "NoRow", "NoFit"):
            self.assertEqual(getattr(errors, name).__module__, "redraft.errors")


if __name__ == "__main__":
    unittest.main()

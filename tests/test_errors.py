"""Refusals: each its own kind under LikeError, none under another."""

import unittest

from likeshelf import errors

KINDS = ["BadPicture", "BadShelf", "BadName", "Told", "Unknown", "Full", "BadText"]


class Refusals(unittest.TestCase):
    def test_like_error_is_a_value_error(self):
        self.assertEqual(errors.LikeError.__bases__, (ValueError,))

    def test_each_kind_is_under_like_error_and_none_under_another(self):
        for name in KINDS:
            with self.subTest(name):
                kind = getattr(errors, name)
                self.assertEqual(kind.__bases__, (errors.LikeError,))
                self.assertEqual(kind.__module__, "likeshelf.errors")

    def test_there_is_no_other_kind(self):
        found = [name for name, value in vars(errors).items() if isinstance(value, type)]
        self.assertEqual(sorted(found), sorted(KINDS + ["LikeError"]))

    def test_bad_text_tells_its_row(self):
        for row in [0, 1, 17]:
            error = errors.BadText(row)
            self.assertEqual(error.row, row)
            self.assertTrue(str(error))
        with self.assertRaises(errors.LikeError) as caught:
            raise errors.BadText(4)
        self.assertEqual(caught.exception.row, 4)


if __name__ == "__main__":
    unittest.main()

import unittest

from lateknow.errors import LateError, NoState, NoText, NoWish, TooGreat

KINDS = (NoState, NoWish, NoText, TooGreat)


class ErrorsTest(unittest.TestCase):
    def test_bases(self):
        self.assertEqual(LateError.__bases__, (ValueError,))
        for kind in KINDS:
            self.assertTrue(issubclass(kind, LateError))

    def test_none_stands_under_another(self):
        for kind in KINDS:
            self.assertEqual([other for other in KINDS if issubclass(kind, other)], [kind])

    def test_row_is_what_it_was_made_with(self):
        for kind in (LateError,) + KINDS:
            self.assertIsNone(kind().row)
            self.assertIsNone(kind(None).row)
            self.assertEqual(kind(0).row, 0)
            self.assertEqual(kind(7).row, 7)
            self.assertEqual(kind(row=12).row, 12)

    def test_taken_by_their_bases(self):
        for kind in KINDS:
            for base in (kind, LateError, ValueError):
                with self.assertRaises(base) as caught:
                    raise kind(3)
                self.assertEqual(caught.exception.row, 3)


if __name__ == "__main__":
    unittest.main()

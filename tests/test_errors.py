"""[2]: the refusals, and that nothing is changed by functions that refuse."""

import unittest

from hewstream import errors


class ErrorsTest(unittest.TestCase):
    def test_base(self):
        self.assertEqual(errors.StreamError.__bases__, (ValueError,))

    def test_each_is_a_direct_subclass(self):
        for name in ("NotValid", "TooMany", "BadByte", "TooDeep", "NotDocument", "BadText"):
            self.assertEqual(getattr(errors, name).__bases__, (errors.StreamError,), name)

    def test_no_argument(self):
        for name in ("NotValid", "TooMany"):
            with self.assertRaises(errors.StreamError) as caught:
                raise getattr(errors, name)()
            self.assertIs(type(caught.exception), getattr(errors, name))

    def test_place(self):
        for name in ("BadByte", "TooDeep"):
            with self.assertRaises(errors.StreamError) as caught:
                raise getattr(errors, name)(17)
            self.assertIs(type(caught.exception), getattr(errors, name))
            self.assertEqual(caught.exception.place, 17)
            self.assertEqual(getattr(errors, name)(place=3).place, 3)

    def test_number(self):
        with self.assertRaises(errors.StreamError) as caught:
            raise errors.NotDocument(4)
        self.assertIs(type(caught.exception), errors.NotDocument)
        self.assertEqual(caught.exception.number, 4)
        self.assertEqual(errors.NotDocument(number=0).number, 0)

    def test_line_and_place(self):
        with self.assertRaises(errors.StreamError) as caught:
            raise errors.BadText(2, 9)
        self.assertIs(type(caught.exception), errors.BadText)
        self.assertEqual((caught.exception.line, caught.exception.place), (2, 9))
        fault = errors.BadText(line=0, place=1)
        self.assertEqual((fault.line, fault.place), (0, 1))

    def test_texts(self):
        for fault in (errors.NotValid(), errors.TooMany(), errors.BadByte(1), errors.BadText(1, 2)):
            self.assertIsInstance(str(fault), str)


if __name__ == "__main__":
    unittest.main()

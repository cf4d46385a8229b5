import unittest

from hushlink import errors


class Errors(unittest.TestCase):
    NAMES = ["OutOfRange", "Malformed", "NotAuthentic", "Exhausted", "OutOfOrder",
             "Refused", "PowerLost", "BadLine"]

    def test_base_class(self):
        self.assertEqual(errors.HushError.__bases__, (ValueError,))

    def test_each_class_derives_from_the_base_class_only(self):
        for name in self.NAMES:
            with self.subTest(name):
                self.assertEqual(getattr(errors, name).__bases__, (errors.HushError,))

    def test_one_class_does_not_catch_another(self):
        for name in self.NAMES:
            others = [getattr(errors, other) for other in self.NAMES if other != name]
            self.assertFalse(issubclass(getattr(errors, name), tuple(others)))

    def test_each_class_is_raised_with_a_text(self):
        for name in self.NAMES[:-1]:
            with self.subTest(name), self.assertRaises(errors.HushError):
                raise getattr(errors, name)("a text")

    def test_bad_line_has_its_line(self):
        self.assertEqual(errors.BadLine(1).line, 1)
        with self.assertRaises(errors.HushError) as caught:
            raise errors.BadLine(12)
        self.assertEqual(caught.exception.line, 12)
        self.assertNotEqual(str(caught.exception), "")


if __name__ == "__main__":
    unittest.main()

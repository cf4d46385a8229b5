"""The names, parameters and places of the document's interface."""

import importlib
import inspect
import unittest

FUNCTIONS = {
    "octets": ["to_little(number, size)", "to_big(number, size)", "from_little(data)",
               "from_big(data)", "pack(parts)", "unpack(data)", "to_digits(data)",
               "from_digits(text)", "cut(data, size)", "combine(first, second)",
               "equal(first, second)", "zeros(count)", "is_bytes(value)"],
    "words": ["add_words(first, second)", "rotate_left(word, count)",
              "rotate_right(word, count)", "words_little(data)", "words_big(data)",
              "bytes_little(words)", "bytes_big(words)"],
    "field": ["add(a, b)", "subtract(a, b)", "multiply(a, b)", "power(a, n)", "invert(a)",
              "square_class(a)", "square_root(a)", "field_from_bytes(data)", "field_to_bytes(a)"],
    "limbs": ["is_tight(limbs)", "is_loose(limbs)", "to_limbs(a)", "from_limbs(limbs)",
              "carry(limbs)", "add_limbs(a, b)", "subtract_limbs(a, b)", "multiply_limbs(a, b)",
              "scale_limbs(a, k)", "swap_limbs(bit, a, b)", "invert_limbs(a)"],
    "ladder": ["clamp(secret)", "scalar(secret)", "double(point)", "add_points(low, high, u)",
               "ladder(n, u)", "affine(point)", "curve_side(u)"],
}

CLASSES = {}

ERRORS = ["HushError", "OutOfRange", "Malformed", "NotAuthentic", "Exhausted", "OutOfOrder",
          "Refused", "PowerLost", "BadLine"]


def module(name):
    return importlib.import_module("hushlink." + name)


class Interface(unittest.TestCase):
    def test_functions(self):
        for name, lines in FUNCTIONS.items():
            for line in lines:
                with self.subTest(module=name, function=line):
                    found = getattr(module(name), line.partition("(")[0])
                    self.assertTrue(inspect.isfunction(found))
                    self.assertEqual(found.__name__ + str(inspect.signature(found)), line)
                    self.assertEqual(found.__module__, "hushlink." + name)

    def test_classes(self):
        for (name, line), methods in CLASSES.items():
            with self.subTest(module=name, line=line):
                found = getattr(module(name), line.partition("(")[0])
                self.assertEqual(found.__name__ + str(inspect.signature(found)), line)
                self.assertEqual(found.__module__, "hushlink." + name)
                for method in methods:
                    self.assertIn(method.partition("(")[0], vars(found))
                    own = vars(found)[method.partition("(")[0]]
                    self.assertEqual(own.__name__ + str(inspect.signature(own)), method)

    def test_errors(self):
        for name in ERRORS:
            with self.subTest(name):
                found = getattr(module("errors"), name)
                self.assertTrue(inspect.isclass(found))
                self.assertEqual(found.__module__, "hushlink.errors")

    def test_prime(self):
        self.assertEqual(vars(module("field"))["PRIME"], 2 ** 255 - 19)


if __name__ == "__main__":
    unittest.main()

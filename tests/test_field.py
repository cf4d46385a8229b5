import unittest

from hushlink.field import (PRIME, add, field_from_bytes, field_to_bytes, invert, multiply, power,
                            square_class, square_root, subtract)
from support import HushCase, some_bytes, some_number

P = 2 ** 255 - 19
NUMBERS = [0, 1, 2, 9, 121665, P - 1, P - 2, P, P + 1, 2 * P, 5 * P + 3, 2 ** 255, 2 ** 300 + 7,
           -1, -2, -P, -P - 1, -3 * P + 4, -2 ** 260, some_number(255), some_number(255, 2)]


class Arithmetic(HushCase):
    def test_prime(self):
        self.assertEqual(PRIME, P)

    def test_add(self):
        for a in NUMBERS:
            for b in NUMBERS:
                self.assertEqual(add(a, b), (a + b) % P)

    def test_subtract(self):
        for a in NUMBERS:
            for b in NUMBERS:
                self.assertEqual(subtract(a, b), (a - b) % P)

    def test_multiply(self):
        for a in NUMBERS:
            for b in NUMBERS:
                self.assertEqual(multiply(a, b), a * b % P)

    def test_power(self):
        for a in NUMBERS:
            for n in (0, 1, 2, 3, 255, P - 1, P, 2 ** 255, 2 ** 299, 2 ** 300 - 1,
                      some_number(300)):
                self.assertEqual(power(a, n), pow(a, n, P))

    def test_power_zero(self):
        for a in (0, 1, 5, P, -P, P - 1):
            self.assertEqual(power(a, 0), 1)

    def test_powers_of_zero(self):
        for n in (1, 2, P - 1):
            self.assertEqual(power(0, n), 0)
            self.assertEqual(power(P, n), 0)

    def test_invert(self):
        for a in NUMBERS:
            inverse = invert(a)
            self.assertTrue(0 <= inverse < P)
            self.assertEqual(a * inverse % P, 0 if a % P == 0 else 1)

    def test_inverse_of_zero(self):
        for a in (0, P, -P, 7 * P):
            self.assertEqual(invert(a), 0)


class Squares(HushCase):
    def test_classes_of_small_numbers(self):
        self.assertEqual(square_class(0), 0)
        self.assertEqual(square_class(1), 1)
        self.assertEqual(square_class(2), -1)
        self.assertEqual(square_class(-1), 1)
        self.assertEqual([square_class(k * P) for k in (-1, 1, 2)], [0, 0, 0])

    def test_classes_of_squares_and_their_doubles(self):
        for a in NUMBERS:
            if a % P != 0:
                self.assertEqual(square_class(a * a), 1)
                self.assertEqual(square_class(2 * a * a), -1)

    def test_class_of_a_product(self):
        for a in NUMBERS:
            for b in (0, 2, 3, -5, P + 2, some_number(255, 7)):
                self.assertEqual(square_class(a * b), square_class(a) * square_class(b))

    def test_root_of_zero(self):
        for a in (0, P, -P):
            self.assertEqual(square_root(a), 0)

    def test_roots_of_squares(self):
        for a in NUMBERS + [some_number(255, k) for k in range(20)]:
            for square in (a * a, a * a % P, a * a - 3 * P):
                root = square_root(square)
                self.assertIn(root, (a % P, -a % P))
                self.assertEqual(root % 2, 0)
                self.assertEqual(root * root % P, a * a % P)

    def test_even_root_and_not_the_odd_one(self):
        self.assertEqual(square_root(4), 2)
        self.assertEqual(square_root(1), P - 1)
        self.assertEqual(square_root(9), P - 3)
        self.assertEqual(square_root(16), 4)

    def test_numbers_without_a_root(self):
        for a in NUMBERS:
            if a % P != 0:
                self.assertIsNone(square_root(2 * a * a))
        for a in (2, P + 2, 2 - P, -2):
            self.assertIsNone(square_root(a))


class FieldBytes(HushCase):
    def test_order(self):
        self.assertEqual(field_from_bytes([1, 2] + [0] * 30), 513)
        self.assertEqual(field_to_bytes(513), [1, 2] + [0] * 30)

    def test_highest_bit_is_dropped(self):
        data = some_bytes(31) + [5]
        self.assertEqual(field_from_bytes(data[:31] + [5 + 128]), field_from_bytes(data))
        self.assertEqual(field_from_bytes([0] * 31 + [128]), 0)
        self.assertEqual(field_from_bytes([255] * 32), 18)
        self.assertEqual(field_from_bytes([0] * 31 + [64]), 2 ** 254)

    def test_numbers_from_the_prime_on(self):
        for extra in range(19):
            data = list((P + extra).to_bytes(32, "little"))
            self.assertEqual(field_from_bytes(data), extra)
        self.assertEqual(field_from_bytes(list((P - 1).to_bytes(32, "little"))), P - 1)

    def test_other_lengths(self):
        for length in (0, 1, 31, 33, 64):
            self.assert_out_of_range(field_from_bytes, [0] * length)

    def test_writing(self):
        for a in NUMBERS:
            self.assertEqual(field_to_bytes(a), list((a % P).to_bytes(32, "little")))
            self.assertEqual(field_from_bytes(field_to_bytes(a)), a % P)
        self.assert_fresh(field_to_bytes, 5)

    def test_field_from_bytes_keeps_its_argument(self):
        self.assert_keeps(field_from_bytes, [255] * 32)


if __name__ == "__main__":
    unittest.main()

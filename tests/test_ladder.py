import unittest

from hushlink.ladder import add_points, affine, clamp, curve_side, double, ladder, scalar
from plain_curve import multiple, right_side, root
from support import HushCase, some_bytes, some_number

P = 2 ** 255 - 19
POINTS = [(1, 0), (0, 1), (0, 0), (9, 1), (1, 1), (P - 1, 1), (some_number(254), 1),
          (some_number(254, 2), some_number(254, 3)), (P - 1, P - 1), (5, 0)]


class Clamping(HushCase):
    def test_example(self):
        self.assertEqual(clamp([255] * 32), [248] + [255] * 30 + [127])

    def test_zeros(self):
        self.assertEqual(clamp([0] * 32), [0] * 31 + [64])

    def test_each_bit(self):
        for bit in range(256):
            number = 2 ** bit
            kept = 0 if bit in (0, 1, 2, 254, 255) else number
            expected = kept + 2 ** 254
            self.assertEqual(clamp(list(number.to_bytes(32, "little"))),
                             list(expected.to_bytes(32, "little")))

    def test_clamped_bytes_stay(self):
        clamped = clamp(some_bytes(32))
        self.assertEqual(clamp(clamped), clamped)

    def test_scalar(self):
        self.assertEqual(scalar([0] * 32), 2 ** 254)
        self.assertEqual(scalar([255] * 32), 2 ** 255 - 8)
        data = some_bytes(32, 4)
        number = int.from_bytes(bytes(data), "little")
        self.assertEqual(scalar(data), number % 2 ** 254 // 8 * 8 + 2 ** 254)

    def test_other_lengths(self):
        for length in (0, 1, 31, 33, 64):
            self.assert_out_of_range(clamp, [0] * length)
            self.assert_out_of_range(scalar, [0] * length)

    def test_clamp_keeps_and_returns_a_new_list(self):
        self.assert_keeps(clamp, [255] * 32)
        self.assert_fresh(clamp, [0] * 31 + [64])

    def test_scalar_keeps_its_argument(self):
        self.assert_keeps(scalar, [255] * 32)


class Formulas(HushCase):
    def test_double(self):
        for x, z in POINTS:
            a, b = (x + z) ** 2, (x - z) ** 2
            e = a - b
            result = double((x, z))
            self.assertEqual(result, (a * b % P, e * (a + 121665 * e) % P))
            self.assertIsInstance(result, tuple)

    def test_add_points(self):
        for x2, z2 in POINTS:
            for x3, z3 in POINTS:
                for u in (0, 1, 9, P - 1, some_number(254)):
                    p, q = (x3 - z3) * (x2 + z2), (x3 + z3) * (x2 - z2)
                    result = add_points((x2, z2), (x3, z3), u)
                    self.assertEqual(result, ((p + q) ** 2 % P, u * (p - q) ** 2 % P))
                    self.assertIsInstance(result, tuple)

    def test_double_is_the_double_of_the_curve(self):
        for u in (9, 2, 3, 4, some_number(254)):
            self.assertEqual(affine(double((u, 1))), multiple(2, u))

    def test_affine(self):
        for x, z in POINTS:
            expected = 0 if z == 0 else x * pow(z, -1, P) % P
            self.assertEqual(affine((x, z)), expected)
        self.assertEqual(affine((18, 2)), 9)

    def test_infinity(self):
        for x in (0, 1, 2, 9, P - 1):
            self.assertEqual(affine((x, 0)), 0)
        self.assertEqual(affine(double((1, 0))), 0)


class Multiples(HushCase):
    def test_steps_of_point_26(self):
        for n in (0, 1, 2, 3, 5, 2 ** 254, 2 ** 255 - 1, some_number(255)):
            for u in (0, 1, 2, 9, some_number(254)):
                low, high = (1, 0), (u, 1)
                for bit in range(254, -1, -1):
                    if n // 2 ** bit % 2:
                        low, high = add_points(low, high, u), double(high)
                    else:
                        low, high = double(low), add_points(low, high, u)
                self.assertEqual(ladder(n, u), low)

    def test_zero_times(self):
        for u in (0, 1, 9, P - 1):
            self.assertEqual(ladder(0, u)[1], 0)
            self.assertEqual(affine(ladder(0, u)), 0)

    def test_once_and_twice(self):
        for u in (0, 1, 2, 9, P - 1, some_number(254)):
            self.assertEqual(affine(ladder(1, u)), u)
            self.assertEqual(affine(ladder(2, u)), affine(double((u, 1))))

    def test_against_plain_additions(self):
        for u in (9, 2, 3, 4, 5, some_number(254, 3)):
            for n in (3, 4, 7, 8, 100, some_number(255, 5), 2 ** 255 - 1):
                self.assertEqual(affine(ladder(n, u)), multiple(n, u))

    def test_one_multiple_after_the_other(self):
        first, second = some_number(255, 8), 2 ** 254 + some_number(254, 9)
        for u in (9, 2, 3, 4, 5, 6, 1, P - 1):
            one = affine(ladder(second, affine(ladder(first, u))))
            other = affine(ladder(first, affine(ladder(second, u))))
            self.assertEqual(one, other)

    def test_both_sides_are_among_the_numbers(self):
        self.assertEqual({curve_side(u) for u in (9, 2, 3, 4, 5, 6)}, {1, -1})

    def test_curve_side(self):
        self.assertEqual(curve_side(0), 0)
        self.assertEqual(curve_side(9), 1)
        self.assertEqual(curve_side(2), -1)
        for u in list(range(1, 40)) + [P - 1, P - 9, some_number(254)]:
            self.assertEqual(curve_side(u), -1 if root(right_side(u)) is None else 1)


if __name__ == "__main__":
    unittest.main()

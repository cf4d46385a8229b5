import unittest

from hushlink.limbs import (add_limbs, carry, from_limbs, invert_limbs, is_loose, is_tight,
                            multiply_limbs, scale_limbs, subtract_limbs, swap_limbs, to_limbs)
from support import HushCase, some_number

P = 2 ** 255 - 19
PRIME_LIMBS = [2 ** 51 - 19] + [2 ** 51 - 1] * 4
TIGHT = [[0] * 5, [1, 0, 0, 0, 0], [0, 0, 0, 0, 1], PRIME_LIMBS, [2 ** 51 - 1] * 5,
         [some_number(51, k) for k in range(5)], [2 ** 51 - 1, 0, 2 ** 50, 5, 2 ** 51 - 1]]
LOOSE = TIGHT + [[2 ** 54 - 1] * 5, [2 ** 51] * 5, [2 ** 54 - 1, 0, 0, 0, 0],
                 [0, 0, 0, 0, 2 ** 54 - 1], [some_number(54, k) for k in range(5)]]


def worth(limbs):
    return sum(limb * 2 ** (51 * k) for k, limb in enumerate(limbs)) % P


def passes(limbs):
    """Three passes of point 30, one limb after the other."""
    a, b, c, d, e = limbs
    for _ in range(3):
        b, a = b + a // 2 ** 51, a % 2 ** 51
        c, b = c + b // 2 ** 51, b % 2 ** 51
        d, c = d + c // 2 ** 51, c % 2 ** 51
        e, d = e + d // 2 ** 51, d % 2 ** 51
        a, e = a + 19 * (e // 2 ** 51), e % 2 ** 51
    return [a, b, c, d, e]


def product(a, b):
    sums = [0] * 5
    for i in range(5):
        for j in range(5):
            sums[(i + j) % 5] += a[i] * b[j] * (19 if i + j > 4 else 1)
    return passes(sums)


class Kinds(HushCase):
    def test_tight(self):
        self.assertIs(is_tight([0] * 5), True)
        self.assertIs(is_tight([2 ** 51 - 1] * 5), True)
        for k in range(5):
            for limb in (2 ** 51, 2 ** 54 - 1, 2 ** 54, 2 ** 130):
                self.assertIs(is_tight([0] * k + [limb] + [0] * (4 - k)), False)

    def test_loose(self):
        self.assertIs(is_loose([0] * 5), True)
        self.assertIs(is_loose([2 ** 51] * 5), True)
        self.assertIs(is_loose([2 ** 54 - 1] * 5), True)
        for k in range(5):
            for limb in (2 ** 54, 2 ** 54 + 1, 2 ** 130):
                self.assertIs(is_loose([0] * k + [limb] + [0] * (4 - k)), False)

    def test_is_tight_keeps_its_argument(self):
        self.assert_keeps(is_tight, [2 ** 51] * 5)

    def test_is_loose_keeps_its_argument(self):
        self.assert_keeps(is_loose, [2 ** 54] * 5)


class Reading(HushCase):
    def test_example(self):
        self.assertEqual(to_limbs(-1), [2251799813685228, 2251799813685247, 2251799813685247,
                                        2251799813685247, 2251799813685247])

    def test_to_limbs(self):
        for a in (0, 1, 2 ** 51 - 1, 2 ** 51, 2 ** 102, 2 ** 204, P - 1, P, P + 1, 2 ** 255 - 1,
                  2 ** 255, 2 ** 300, -1, -P, -P - 1, -2 ** 270, some_number(255)):
            limbs = to_limbs(a)
            self.assertEqual(limbs, [a % P // 2 ** (51 * k) % 2 ** 51 for k in range(5)])
            self.assertEqual(from_limbs(limbs), a % P)

    def test_from_limbs(self):
        for limbs in LOOSE:
            self.assertEqual(from_limbs(limbs), worth(limbs))
        self.assertEqual(from_limbs([1, 2, 3, 4, 5]),
                         1 + 2 * 2 ** 51 + 3 * 2 ** 102 + 4 * 2 ** 153 + 5 * 2 ** 204)
        self.assertEqual(from_limbs(PRIME_LIMBS), 0)

    def test_to_limbs_returns_a_new_list(self):
        self.assert_fresh(to_limbs, 5)

    def test_from_limbs_keeps_its_argument(self):
        self.assert_keeps(from_limbs, [2 ** 54 - 1] * 5)


class Carrying(HushCase):
    def test_tight_limbs_do_not_change(self):
        for limbs in TIGHT:
            self.assertEqual(carry(limbs), limbs)

    def test_three_passes(self):
        wide = [[2 ** 120 - 1] * 5, [2 ** 120 - k for k in range(1, 6)], [0, 0, 0, 0, 2 ** 120 - 1],
                [2 ** 120 - 1, 0, 0, 0, 0], [2 ** 51, 2 ** 51 - 1, 2 ** 51 - 1, 2 ** 51 - 1, 2 ** 51],
                [2 ** 51 - 1] * 4 + [2 ** 51], [2 ** 51] + [2 ** 51 - 1] * 4,
                [some_number(120, k) for k in range(5)], [some_number(80, k) for k in range(5)]]
        for limbs in wide + LOOSE:
            carried = carry(limbs)
            self.assertEqual(carried, passes(limbs))
            self.assertEqual(worth(carried), worth(limbs))
            self.assertTrue(all(0 <= limb < 2 ** 51 for limb in carried))

    def test_the_third_pass_is_needed(self):
        # The second pass carries through all limbs and fills the first one again.
        limbs = [2 ** 51 - 1] * 4 + [2 ** 111 + 2 ** 51 - 1]
        self.assertEqual(carry(limbs), passes(limbs))
        self.assertEqual(carry(limbs), [18, 19 * 2 ** 9, 0, 0, 0])

    def test_carry_keeps_and_returns_a_new_list(self):
        self.assert_keeps(carry, [2 ** 60] * 5)
        self.assert_fresh(carry, [1, 2, 3, 4, 5])


class Calculating(HushCase):
    def assert_stands_for(self, limbs, number):
        self.assertTrue(is_tight(limbs))
        self.assertEqual(len(limbs), 5)
        self.assertEqual(worth(limbs), number % P)

    def test_add_limbs(self):
        for a in LOOSE:
            for b in LOOSE:
                self.assert_stands_for(add_limbs(a, b), worth(a) + worth(b))
                self.assertEqual(add_limbs(a, b), passes([x + y for x, y in zip(a, b)]))

    def test_subtract_limbs(self):
        for a in LOOSE:
            for b in LOOSE:
                self.assert_stands_for(subtract_limbs(a, b), worth(a) - worth(b))
                raised = [x + 16 * p - y for x, p, y in zip(a, PRIME_LIMBS, b)]
                self.assertTrue(min(raised) >= 0)
                self.assertEqual(subtract_limbs(a, b), passes(raised))

    def test_greater_limbs_from_smaller_ones(self):
        self.assert_stands_for(subtract_limbs([0] * 5, [2 ** 54 - 1] * 5), -worth([2 ** 54 - 1] * 5))
        self.assert_stands_for(subtract_limbs([1, 0, 0, 0, 0], [2, 0, 0, 0, 0]), -1)

    def test_multiply_limbs(self):
        for a in LOOSE:
            for b in LOOSE:
                self.assert_stands_for(multiply_limbs(a, b), worth(a) * worth(b))
                self.assertEqual(multiply_limbs(a, b), product(a, b))

    def test_products_of_single_limbs(self):
        for i in range(5):
            for j in range(5):
                a = [0] * i + [3] + [0] * (4 - i)
                b = [0] * j + [2 ** 53] + [0] * (4 - j)
                self.assertEqual(multiply_limbs(a, b), product(a, b))

    def test_scale_limbs(self):
        for a in LOOSE:
            for k in (0, 1, 2, 121665, 2 ** 32 - 1, 2 ** 32):
                self.assert_stands_for(scale_limbs(a, k), worth(a) * k)
                self.assertEqual(scale_limbs(a, k), passes([k * limb for limb in a]))
            self.assertEqual(scale_limbs(a, 0), [0] * 5)

    def test_invert_limbs(self):
        for a in LOOSE:
            inverse = invert_limbs(a)
            self.assertTrue(is_tight(inverse))
            self.assertEqual(worth(inverse) * worth(a) % P, 0 if worth(a) == 0 else 1)

    def test_inverse_of_zero(self):
        self.assert_stands_for(invert_limbs([0] * 5), 0)
        self.assert_stands_for(invert_limbs(PRIME_LIMBS), 0)

    def test_add_limbs_keeps_its_arguments(self):
        self.assert_keeps(add_limbs, [2 ** 52] * 5, [2 ** 53] * 5)
        self.assert_fresh(add_limbs, [1] * 5, [0] * 5)

    def test_subtract_limbs_keeps_its_arguments(self):
        self.assert_keeps(subtract_limbs, [2 ** 52] * 5, [2 ** 53] * 5)
        self.assert_fresh(subtract_limbs, [1] * 5, [0] * 5)

    def test_multiply_limbs_keeps_its_arguments(self):
        self.assert_keeps(multiply_limbs, [2 ** 52] * 5, [2 ** 53] * 5)
        self.assert_fresh(multiply_limbs, [1] * 5, [1, 0, 0, 0, 0])

    def test_scale_limbs_keeps_its_argument(self):
        self.assert_keeps(scale_limbs, [2 ** 52] * 5, 7)
        self.assert_fresh(scale_limbs, [1] * 5, 1)

    def test_invert_limbs_keeps_its_argument(self):
        self.assert_keeps(invert_limbs, [2 ** 52] * 5)
        self.assert_fresh(invert_limbs, [1, 0, 0, 0, 0])
        self.assert_fresh(invert_limbs, [0] * 5)


class Swapping(HushCase):
    def test_both_bits(self):
        a, b = [1, 2, 3, 4, 5], [2 ** 51, 7, 0, 2 ** 130, 9]
        self.assertEqual(swap_limbs(0, a, b), (a, b))
        self.assertEqual(swap_limbs(1, a, b), (b, a))
        self.assertIsInstance(swap_limbs(0, a, b), tuple)

    def test_limbs_are_not_carried(self):
        wide = [2 ** 119] * 5
        self.assertEqual(swap_limbs(0, wide, [0] * 5), (wide, [0] * 5))
        self.assertEqual(swap_limbs(1, wide, [0] * 5), ([0] * 5, wide))

    def test_both_bits_return_new_lists(self):
        for bit in (0, 1):
            a, b = [1, 2, 3, 4, 5], [6, 7, 8, 9, 10]
            self.assert_keeps(swap_limbs, bit, a, b)
            self.assert_fresh(swap_limbs, bit, a, b)
            for result in swap_limbs(bit, a, b):
                self.assertIsNot(result, a)
                self.assertIsNot(result, b)
            first, second = swap_limbs(bit, a, a)
            self.assertIsNot(first, second)


if __name__ == "__main__":
    unittest.main()

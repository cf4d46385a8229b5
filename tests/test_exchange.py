import unittest
from unittest import mock

from hushlink.errors import Refused
from hushlink.exchange import agree, exchange, exchange_limbs, is_weak, public_key
from hushlink.ladder import clamp, curve_side
from plain_curve import (P, STRONG, WEAK, key_bytes, multiple, multiple_point, weak_keys,
                         with_highest_bit)
from support import HushCase, some_bytes, some_number


def from_hex(text):
    return list(bytes.fromhex(text))


def secrets():
    return [some_bytes(32, k) for k in range(3)] + [[0] * 32, [255] * 32]


class Exchanging(HushCase):
    def test_examples(self):
        self.assertEqual(exchange([1] * 32, [0] * 32), [0] * 32)
        with self.assertRaises(Refused):
            agree([1] * 32, [1] + [0] * 31)

    def test_known_values(self):
        known = [("a546e36bf0527c9d3b16154b82465edd62144c0ac1fc5a18506a2244ba449ac4",
                  "e6db6867583030db3594c1a424b15f7c726624ec26b3353b10a903a6d0ab1c4c",
                  "c3da55379de9c6908e94ea4df28d084f32eccf03491c71f754b4075577a28552"),
                 ("4b66e9d4d1b4673c5ad22691957d6af5c11b6421e0ea01d42ca4169e7918ba0d",
                  "e5210f12786811d3f4b7959d0538ae2c31dbe7106fc03c3efc4cd549c715a493",
                  "95cbde9476e8907d7aade45cb4b873f88b595a68799fa152e6f8f7647aac7957")]
        for secret, public, shared in known:
            self.assertEqual(exchange(from_hex(secret), from_hex(public)), from_hex(shared))

    def test_known_value_after_many_exchanges(self):
        secret = public = key_bytes(9)
        for _ in range(1000):
            secret, public = exchange(secret, public), secret
        self.assertEqual(secret, from_hex(
            "684cf59ba83309552800ef566f2f4d3c1c3887c49360e3875f2eb94d99532c51"))

    def test_against_plain_additions(self):
        for secret in secrets():
            n = int.from_bytes(bytes(clamp(secret)), "little")
            for u in STRONG:
                self.assertEqual(exchange(secret, key_bytes(u)), key_bytes(multiple(n, u)))

    def test_public_key(self):
        for secret in secrets():
            self.assertEqual(public_key(secret), exchange(secret, [9] + [0] * 31))
        self.assertEqual(public_key([9] + [0] * 31), from_hex(
            "422c8e7a6227d7bca1350b3e2bb7279f7897b87bb6854b783c60e80311ae3079"))

    def test_both_ways_give_the_same(self):
        keys = secrets()
        for one in keys:
            for other in keys:
                self.assertEqual(exchange(one, public_key(other)), exchange(other, public_key(one)))

    def test_both_ways_from_another_public_key(self):
        one, other = some_bytes(32, 5), some_bytes(32, 6)
        sides = set()
        for u in STRONG + WEAK:
            sides.add(curve_side(u))
            base = key_bytes(u)
            self.assertEqual(exchange(one, exchange(other, base)),
                             exchange(other, exchange(one, base)))
        self.assertEqual(sides, {-1, 0, 1})

    def test_a_key_and_its_clamped_bytes(self):
        public = key_bytes(some_number(254))
        for secret in secrets():
            self.assertEqual(exchange(clamp(secret), public), exchange(secret, public))
            self.assertEqual(public_key(clamp(secret)), public_key(secret))

    def test_public_keys_of_one_coordinate(self):
        secret = some_bytes(32, 7)
        for u in STRONG:
            key = key_bytes(u)
            self.assertEqual(exchange(secret, with_highest_bit(key)), exchange(secret, key))
        for u in range(19):
            shared = exchange(secret, key_bytes(u))
            self.assertEqual(exchange(secret, key_bytes(u + P)), shared)
            self.assertEqual(exchange(secret, with_highest_bit(key_bytes(u + P))), shared)

    def test_lengths(self):
        for length in (0, 31, 33, 64):
            wrong = [1] * length
            for function in (exchange, agree, exchange_limbs):
                self.assert_out_of_range(function, wrong, [9] * 32)
                self.assert_out_of_range(function, [9] * 32, wrong)
                self.assert_out_of_range(function, wrong, wrong)
                self.assert_out_of_range(function, wrong, None)
            self.assert_out_of_range(public_key, wrong)
            self.assert_out_of_range(is_weak, wrong)

    def test_a_weak_public_key_of_another_length(self):
        self.assert_out_of_range(agree, [9] * 32, [0] * 31)
        self.assert_out_of_range(is_weak, [0] * 33)


class WeakKeys(HushCase):
    def test_the_numbers_are_those_whose_order_divides_8(self):
        for u in WEAK:
            self.assertIsNone(multiple_point(8, u))
        for u in STRONG:
            self.assertIsNotNone(multiple_point(8, u))

    def test_weak_keys(self):
        self.assertEqual(len(weak_keys()), 14)
        for key in weak_keys():
            self.assertIs(is_weak(key), True)
            for secret in secrets():
                self.assertEqual(exchange(secret, key), [0] * 32)
                self.assertRaises(Refused, agree, secret, key)

    def test_other_keys(self):
        for u in STRONG:
            for key in (key_bytes(u), with_highest_bit(key_bytes(u))):
                self.assertIs(is_weak(key), False)
                for secret in secrets():
                    shared = exchange(secret, key)
                    self.assertNotEqual(shared, [0] * 32)
                    self.assertEqual(agree(secret, key), shared)

    def test_keys_beside_the_weak_ones(self):
        for u in WEAK:
            for other in (u + 2, u - 2, 2 * u, P - u):
                self.assertEqual(is_weak(key_bytes(other % P)), other % P in WEAK)

    def test_a_prime_that_takes_the_highest_bit(self):
        # The highest bit is dropped, so this is not the u-coordinate again.
        for u in WEAK[2:]:
            if u + P < 2 ** 256:
                self.assertIs(is_weak(key_bytes(u + P)), False)

    def test_public_keys_are_not_weak(self):
        for secret in secrets():
            self.assertIs(is_weak(public_key(secret)), False)


class OnLimbs(HushCase):
    def test_the_same_bytes(self):
        publics = [key_bytes(u) for u in STRONG] + weak_keys() + [[255] * 32]
        for secret in (some_bytes(32, 8), [0] * 32, [255] * 32):
            for public in publics:
                self.assertEqual(exchange_limbs(secret, public), exchange(secret, public))

    def test_more_secrets(self):
        for k in range(10):
            secret, public = some_bytes(32, 20 + k), some_bytes(32, 50 + k)
            self.assertEqual(exchange_limbs(secret, public), exchange(secret, public))

    def test_the_steps_do_not_depend_on_the_secret(self):
        names = ["add_limbs", "subtract_limbs", "multiply_limbs", "scale_limbs", "swap_limbs"]

        def steps(secret):
            found = []

            def noting(name, function):
                def call(*arguments):
                    found.append(name)
                    return function(*arguments)
                return call

            import hushlink.exchange as file
            with mock.patch.multiple(file, **{n: noting(n, getattr(file, n)) for n in names}):
                exchange_limbs(secret, [9] + [0] * 31)
            return found

        expected = steps([0] * 32)
        self.assertEqual(set(expected), set(names))
        for secret in ([255] * 32, some_bytes(32, 3)):
            self.assertEqual(steps(secret), expected)


class Keeping(HushCase):
    def test_exchange(self):
        self.assert_keeps(exchange, [255] * 32, [255] * 32)
        self.assert_fresh(exchange, [255] * 32, [0] * 32)

    def test_public_key(self):
        self.assert_keeps(public_key, [255] * 32)
        self.assert_fresh(public_key, [255] * 32)

    def test_is_weak(self):
        self.assert_keeps(is_weak, [255] * 32)

    def test_agree(self):
        self.assert_keeps(agree, [255] * 32, [255] * 32)
        self.assert_fresh(agree, [255] * 32, [255] * 32)

    def test_exchange_limbs(self):
        self.assert_keeps(exchange_limbs, [255] * 32, [255] * 32)
        self.assert_fresh(exchange_limbs, [255] * 32, [255] * 32)


if __name__ == "__main__":
    unittest.main()

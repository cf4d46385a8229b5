import unittest

from hushlink.catalog import PATTERN_NAMES, pattern_named
from hushlink.disk import Disk
from hushlink.ends import End
from hushlink.errors import Malformed, OutOfRange, Refused
from hushlink.options import Options
from hushlink.pattern import write_pattern
from hushlink.store import Store, prepare
from hushlink.suites import SmallSuite, StandardSuite
from support import HushCase, some_bytes, spoil

STANDARD, SMALL = StandardSuite(), SmallSuite()
SUITES = (STANDARD, SMALL)
LIMITS = (100, 0, 1000, 65536, 4)
PSK = some_bytes(32, 9)


def store_of(suite, secret=True):
    disk = Disk()
    prepare(suite, disk, some_bytes(suite.key_size), some_bytes(suite.key_size, 2) if secret else None)
    return Store(suite, disk)


def options(patterns, *, suite=SMALL, secret=True, prologue=(), psk=None, rule=("any",),
            limits=LIMITS):
    return Options(suite, store_of(suite, secret), patterns, prologue, psk, rule, limits)


class OptionsCase(HushCase):
    def assert_refused(self, patterns, **named):
        with self.assertRaises(Refused):
            options(patterns, **named)

    def assert_malformed(self, patterns, **named):
        with self.assertRaises(Malformed):
            options(patterns, **named)


class Patterns(OptionsCase):
    def test_pattern(self):
        for suite in SUITES:
            names = ("XX", "NNpsk0", "IKpsk2", "NN")
            found = options(names, suite=suite, psk=PSK)
            for name in names:
                pattern = found.pattern(name)
                self.assertEqual(pattern.name, name)
                self.assertEqual(write_pattern(pattern), write_pattern(pattern_named(name)))
            for name in ("", "XN", "NNpsk1", "xx", "IK"):
                self.assertIsNone(found.pattern(name))

    def test_every_named_pattern(self):
        for name in PATTERN_NAMES:
            if len(name) == 1:
                self.assert_refused((name,))
                self.assert_refused(("XX", name))
            else:
                self.assertEqual(options((name,)).pattern(name).name, name)

    def test_names_that_are_none(self):
        for name in ("", "xx", "XX ", "XXpsk", "XXpsk10", "XXpsk1+psk0", "XXpsk0+fallback", "NZ"):
            self.assert_malformed((name,))
            self.assert_malformed(("XX", name))

    def test_modifiers_that_are_not_possible(self):
        for name in ("XXpsk4", "NNpsk3", "IKfallback", "KNfallback"):
            self.assert_refused((name,), psk=PSK)

    def test_long_names(self):
        # 60 and 61 characters are more than any pattern that there is has.
        modifiers = "+".join("psk" + str(number) for number in range(10))
        for start, size in (("NN", 60), ("NK1", 61), ("X1X1", 62)):
            name = start + "fallback+" + modifiers
            self.assertEqual(len(name), size)
            self.assert_refused((name,), psk=PSK)
        for size in (60, 61):
            self.assert_malformed(("N" * size,))

    def test_the_answerer_sends_the_first_message(self):
        for name in ("XXfallback", "NNfallback", "X1Xfallback", "NXfallback+psk0"):
            psk = PSK if "psk" in name else None
            self.assert_refused((name,), psk=psk)
            self.assert_refused(("XX", name), psk=psk)

    def test_secrets(self):
        # Who needs a secret key: the opener, the answerer.
        for name in PATTERN_NAMES:
            if len(name) == 2:
                opener, answerer = name[0] != "N", name[1] != "N"
                for places, wanted in (((name,), opener or answerer), (("NN", name), answerer)):
                    if len(set(places)) < len(places):
                        continue
                    if wanted:
                        self.assert_refused(places, secret=False)
                    else:
                        options(places, secret=False)
                    options(places)

    def test_numbers_of_names(self):
        names = ("NN", "NK", "NX", "XN", "XK", "XX", "IN", "IK", "IX")
        self.assert_out_of_range(options, ())
        options(names[:1])
        options(names[:8])
        self.assert_out_of_range(options, names)

    def test_two_names_alike(self):
        for names in (("XX", "XX"), ("NN", "XX", "NN"), ("XX", "IK", "NN", "NX", "NX")):
            self.assert_out_of_range(options, names)


class Parts(OptionsCase):
    def test_psk(self):
        for suite in SUITES:
            self.assert_refused(("NNpsk0",), suite=suite)
            self.assert_refused(("NN", "XXpsk3"), suite=suite)
            self.assert_refused(("NN",), suite=suite, psk=PSK)
            self.assert_refused(("NN", "XX"), suite=suite, psk=[])
            options(("NN", "XXpsk3"), suite=suite, psk=PSK)
            for wrong in ([], PSK[1:], PSK + [0]):
                self.assert_out_of_range(options, ("NNpsk0",), suite=suite, psk=wrong)

    def test_prologue(self):
        for size in (0, 1, 1024):
            options(("XX",), prologue=[1] * size)
        options(("XX",), prologue=())
        self.assert_out_of_range(options, ("XX",), prologue=[1] * 1025)

    def test_rules(self):
        for suite in SUITES:
            key = some_bytes(suite.key_size)
            for rule in (("any",), ("nobody",), ("names",), ("first",), ("pinned", [key] * 64)):
                options(("XX",), suite=suite, rule=rule)
            for rule in ((), ("other",), None, ("any", 1), ("pinned", [key] * 65),
                         ("pinned", [key[1:]]), ("pinned", [key, key + [0]])):
                self.assert_out_of_range(options, ("XX",), suite=suite, rule=rule)

    def test_limits(self):
        bounds = ((1, 1000000), (0, 1000000), (2, 1000000), (0, 16777216), (1, 16))
        for place, (least, most) in enumerate(bounds):
            for number in (least, most):
                options(("XX",), limits=LIMITS[:place] + (number,) + LIMITS[place + 1:])
            for number in (least - 1, most + 1, -5):
                limits = LIMITS[:place] + (number,) + LIMITS[place + 1:]
                self.assert_out_of_range(options, ("XX",), limits=limits)
        for limits in ((), LIMITS[:4], LIMITS + (1,)):
            self.assert_out_of_range(options, ("XX",), limits=limits)


class TwoErrors(OptionsCase):
    """The first one of point 181 is raised."""

    def test_the_names_come_one_after_the_other(self):
        self.assert_refused(("XXfallback", "zz"))
        self.assert_malformed(("zz", "XXfallback"))
        self.assert_refused(("N", "zz"))
        self.assert_refused(("NK", "zz"), secret=False)
        self.assert_malformed(("NN", "zz", "NK"), secret=False)

    def test_names_before_the_psk(self):
        self.assert_malformed(("NNpsk0", "zz"))
        self.assert_malformed(("zz",), psk=PSK)

    def test_refused_before_out_of_range(self):
        wrong = {"prologue": [0] * 1025, "rule": (), "limits": ()}
        for word, value in wrong.items():
            self.assert_malformed(("zz",), **{word: value})
            self.assert_refused(("N",), **{word: value})
            self.assert_refused(("NK",), secret=False, **{word: value})
            self.assert_refused(("NNpsk0",), **{word: value})
            self.assert_refused(("NN",), psk=PSK, **{word: value})
        self.assert_refused((), psk=PSK)
        self.assert_refused((), psk=[])
        self.assert_refused(("NN", "NN"), psk=PSK)
        self.assert_refused(("NN", "NN", "NK"), secret=False)
        self.assert_refused(("NNpsk0",) * 9)
        self.assert_malformed(("NN",) * 9 + ("zz",))


class Lists(HushCase):
    def test_lists_are_their_own(self):
        key = SMALL.public([7] * 16)
        prologue, psk, rule = [1, 2], list(PSK), ("pinned", [key])
        found = self.assert_keeps(
            lambda *given: Options(SMALL, store_of(SMALL), ("NNpsk0",), *given, LIMITS),
            prologue, psk, rule)
        found = Options(SMALL, store_of(SMALL), ("NNpsk0",), prologue, psk, rule, LIMITS)
        for value in (prologue, psk, rule):
            spoil(value)
        self.assertEqual((found.prologue, found.psk, found.rule),
                         ([1, 2], PSK, ("pinned", [SMALL.public([7] * 16)])))

    def test_ends_raise_the_same(self):
        store = store_of(SMALL, secret=False)
        with self.assertRaises(Refused):
            End(SMALL, store)
        for error, named in ((Malformed, {"patterns": ("zz",)}), (Refused, {"patterns": ("N",)}),
                             (OutOfRange, {"patterns": ()}), (Refused, {"psk": PSK}),
                             (OutOfRange, {"prologue": [0] * 1025}), (OutOfRange, {"rule": ()}),
                             (OutOfRange, {"limits": (0, 0, 2, 0, 1)})):
            with self.assertRaises(error):
                End(SMALL, store_of(SMALL), **named)


if __name__ == "__main__":
    unittest.main()

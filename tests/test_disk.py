import random
import unittest

from hushlink.disk import Disk
from hushlink.errors import OutOfOrder, OutOfRange, PowerLost
from support import HushCase, some_bytes, spoil


def bank_with(settled, pending, bank=0):
    disk = Disk()
    disk.write(bank, settled)
    disk.settle(bank)
    disk.write(bank, pending)
    return disk


def seen(disk):
    """All that a disk shows."""
    return disk.read(0), disk.read(1), disk.pending(), disk.has_power(), disk.crashes()


DEEDS = (("write", 0, [1]), ("write", 1, []), ("settle", 0), ("settle", 1), ("cut", 0, 0),
         ("cut", 1, 0))


def run(disk, deed):
    return getattr(disk, deed[0])(*deed[1:])


class Banks(HushCase):
    def test_a_new_disk(self):
        self.assertEqual(seen(Disk()), ([], [], 0, True, 0))

    def test_write_settle_and_read(self):
        for bank in (0, 1):
            disk = Disk()
            self.assertIsNone(disk.write(bank, [1, 2]))
            self.assertEqual(disk.read(bank), [1, 2])
            self.assertEqual(disk.read(1 - bank), [])
            self.assertEqual(disk.pending(), 2)
            disk.write(bank, [])
            disk.write(bank, [3])
            self.assertEqual(disk.pending(), 3)
            self.assertIsNone(disk.settle(1 - bank))
            self.assertEqual(disk.pending(), 3)
            self.assertIsNone(disk.settle(bank))
            self.assertEqual(disk.pending(), 0)
            disk.write(1 - bank, [9])
            self.assertEqual((disk.read(bank), disk.read(1 - bank)), ([1, 2, 3], [9]))
            self.assertEqual(disk.pending(), 1)

    def test_only_one_bank_has_pending_bytes(self):
        for bank in (0, 1):
            disk = bank_with([1], [2], bank)
            before = seen(disk)
            for data in ([3], [], [0] * 65537):
                with self.assertRaises(OutOfOrder):
                    disk.write(1 - bank, data)
                self.assertEqual(seen(disk), before)
            disk.write(bank, [3])

    def test_a_bank_that_is_full(self):
        for bank in (0, 1):
            disk = Disk()
            self.assert_out_of_range(disk.write, bank, [0] * 65537)
            data = some_bytes(65536)
            disk.write(bank, data)
            self.assertEqual(disk.read(bank), data)
            self.assert_out_of_range(disk.write, bank, [0])
            disk.settle(bank)
            self.assert_out_of_range(disk.write, bank, [0])
            disk.write(bank, [])
            disk.cut(bank, 65535)
            self.assert_out_of_range(disk.write, bank, [0, 0])
            self.assertEqual((disk.read(bank), disk.pending()), (data[:-1], 0))
            disk.write(bank, [7])
            self.assertEqual(disk.read(bank), data[:-1] + [7])

    def test_cut(self):
        for bank in (0, 1):
            disk = bank_with([1, 2, 3], [], bank)
            for length in (-1, 4, 100):
                self.assert_out_of_range(disk.cut, bank, length)
            self.assertEqual(disk.read(bank), [1, 2, 3])
            disk.cut(bank, 3)
            self.assertEqual(disk.read(bank), [1, 2, 3])
            self.assertIsNone(disk.cut(bank, 1))
            self.assertEqual((disk.read(bank), disk.pending()), ([1], 0))
            # It is gone for good.
            disk.crash(9, 9)
            self.assertEqual(disk.read(bank), [1])
            disk.cut(bank, 0)
            self.assertEqual(disk.read(bank), [])
            disk.cut(bank, 0)

    def test_cut_while_bytes_are_pending(self):
        for bank in (0, 1):
            disk = bank_with([1, 2], [3], bank)
            before = seen(disk)
            for length in (-1, 0, 2, 3, 9):
                for other in (0, 1):
                    with self.assertRaises(OutOfOrder):
                        disk.cut(other, length)
            self.assertEqual(seen(disk), before)

    def test_lists_are_their_own(self):
        disk, data = Disk(), [1, 2]
        self.assert_keeps(disk.write, 0, data)
        spoil(data)
        spoil(disk.read(0))
        self.assertEqual(disk.read(0), [1, 2])
        self.assertEqual(disk.pending(), 2)


class Crashes(HushCase):
    def test_kept_and_torn(self):
        for bank in (0, 1):
            for kept in (0, 1, 2, 3, 4, 99):
                for torn in (0, 1, 2, 3, 4, 99):
                    disk = bank_with([8, 9], [1, 2, 3], bank)
                    self.assertIsNone(disk.crash(kept, torn))
                    stays = [1, 2, 3][:kept]
                    blank = [0] * min(torn, 3 - len(stays))
                    self.assertEqual(disk.read(bank), [8, 9] + stays + blank)
                    self.assertEqual((disk.read(1 - bank), disk.pending()), ([], 0))
                    # All that remains is settled.
                    disk.crash(0, 0)
                    self.assertEqual(disk.read(bank), [8, 9] + stays + blank)
                    self.assertEqual(disk.crashes(), 2)

    def test_without_pending_bytes(self):
        disk = bank_with([8, 9], [])
        disk.crash(5, 5)
        self.assertEqual(seen(disk), ([8, 9], [], 0, True, 1))


class Power(HushCase):
    def test_each_deed(self):
        for many in (0, 1, 2, 3):
            for deed in DEEDS:
                disk = Disk()
                self.assertIsNone(disk.arm(many))
                for _ in range(many):
                    self.assertTrue(disk.has_power())
                    disk.settle(0)
                self.assertFalse(disk.has_power())
                before = seen(disk)
                for _ in range(2):
                    with self.assertRaises(PowerLost):
                        run(disk, deed)
                    self.assertEqual(seen(disk), before)
                disk.crash(0, 0)
                self.assertTrue(disk.has_power())
                for _ in range(many + 3):
                    run(disk, ("settle", 0))
                run(disk, deed)

    def test_each_deed_counts(self):
        for deed in DEEDS:
            disk = Disk()
            disk.arm(1)
            run(disk, deed)
            self.assertFalse(disk.has_power())
            with self.assertRaises(PowerLost):
                disk.settle(1)

    def test_power_comes_before_other_errors(self):
        disk = bank_with([1], [2])
        disk.arm(0)
        for deed in (("write", 1, [1]), ("write", 0, [0] * 65537), ("cut", 0, 0), ("cut", 0, -1)):
            with self.assertRaises(PowerLost):
                run(disk, deed)
        self.assertEqual(seen(disk), ([1, 2], [], 1, False, 0))

    def test_a_deed_that_raises_counts(self):
        wrong = ((("write", 1, [1]), OutOfOrder), (("write", 0, [0] * 65537), OutOfRange),
                 (("cut", 0, 0), OutOfOrder))
        for deed, error in wrong:
            disk = bank_with([1], [2])
            disk.arm(2)
            with self.assertRaises(error):
                run(disk, deed)
            self.assertTrue(disk.has_power())
            with self.assertRaises(error):
                run(disk, deed)
            self.assertFalse(disk.has_power())
            with self.assertRaises(PowerLost):
                run(disk, deed)
        disk = Disk()
        disk.arm(1)
        self.assert_out_of_range(disk.cut, 0, 1)
        self.assertFalse(disk.has_power())

    def test_reading_needs_no_power_and_is_no_deed(self):
        disk = bank_with([1], [2])
        disk.arm(1)
        for _ in range(3):
            disk.read(0)
            disk.pending()
            disk.crashes()
        self.assertTrue(disk.has_power())
        disk.arm(0)
        self.assertEqual(seen(disk), ([1, 2], [], 1, False, 0))

    def test_arming_again(self):
        disk = Disk()
        disk.arm(1)
        disk.arm(3)
        disk.settle(0)
        disk.arm(2)
        disk.settle(0)
        self.assertTrue(disk.has_power())
        disk.settle(0)
        self.assertFalse(disk.has_power())
        # Without power it has no effect.
        disk.arm(5)
        self.assertFalse(disk.has_power())
        with self.assertRaises(PowerLost):
            disk.settle(0)
        disk.crash(0, 0)
        # The crash has disarmed it.
        for _ in range(9):
            disk.settle(0)
        disk.arm(1)
        disk.settle(0)
        self.assertFalse(disk.has_power())

    def test_a_crash_disarms(self):
        disk = Disk()
        disk.arm(1)
        disk.crash(0, 0)
        for _ in range(5):
            disk.settle(0)
        self.assertTrue(disk.has_power())

    def test_writing_until_the_power_is_lost(self):
        disk = Disk()
        disk.arm(2)
        disk.write(0, [1, 2])
        disk.write(0, [3])
        with self.assertRaises(PowerLost):
            disk.settle(0)
        self.assertEqual(disk.pending(), 3)
        disk.crash(1, 1)
        self.assertEqual(seen(disk), ([1, 0], [], 0, True, 1))


class Drawn(HushCase):
    def test_against_a_plain_disk(self):
        drawn = random.Random(11)
        for _ in range(100):
            disk, settled, pending, crashes = Disk(), [[], []], [[], []], 0
            for _ in range(30):
                bank, size = drawn.randrange(2), drawn.randrange(4)
                word = drawn.choice(("write", "write", "settle", "cut", "crash"))
                if word == "write":
                    data = [drawn.randrange(256) for _ in range(size)]
                    if pending[1 - bank]:
                        self.assertRaises(OutOfOrder, disk.write, bank, data)
                    else:
                        disk.write(bank, data)
                        pending[bank] += data
                elif word == "settle":
                    disk.settle(bank)
                    settled[bank] += pending[bank]
                    pending[bank] = []
                elif word == "cut":
                    if pending[0] or pending[1]:
                        self.assertRaises(OutOfOrder, disk.cut, bank, size)
                    elif size > len(settled[bank]):
                        self.assertRaises(OutOfRange, disk.cut, bank, size)
                    else:
                        disk.cut(bank, size)
                        settled[bank] = settled[bank][:size]
                else:
                    torn = drawn.randrange(4)
                    disk.crash(size, torn)
                    crashes += 1
                    for place in (0, 1):
                        stays = pending[place][:size]
                        stays += [0] * len(pending[place][size:size + torn])
                        settled[place] += stays
                    pending = [[], []]
                self.assertEqual(seen(disk), (settled[0] + pending[0], settled[1] + pending[1],
                                              len(pending[0]) + len(pending[1]), True, crashes))


if __name__ == "__main__":
    unittest.main()

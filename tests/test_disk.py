import itertools
import random
import unittest

from appendhall.disk import Disk
from appendhall.errors import BadBlock, BadValue, PowerLoss
from tests.samples import BEYOND, FAR, MOST, NO_TEXTS, TEXTS, disk_state, fates_of, nested, odd_things

NO_INDEXES = [-1, -2, -MOST] + BEYOND + ["", "0", (), (0,)] + odd_things()
NO_COUNTS = [-1, -2, -MOST, -FAR, "", "1", (), (1,)] + odd_things()
BLOCKS = [(), ("a",), (0,), ("",), ("a", 1), (MOST, -MOST), tuple(range(12)), ("x" * 200,) * 12] + [(t,) for t in TEXTS]


class PlainDisk:
    """What points 2.1 to 2.7 say, in the most direct way."""

    def __init__(self):
        self.blocks = {}
        self.pending = []

    def seen(self, at):
        for index, block in reversed(self.pending):
            if index == at:
                return block
        return self.blocks.get(at, ())

    def end_pending(self, fates):
        for (at, block), fate in zip(self.pending, fates):
            if fate == 1:
                self.blocks[at] = block
            if fate == 2:
                self.blocks[at] = None
        self.pending = []

    def stored(self):
        return [(at, self.blocks[at]) for at in sorted(self.blocks) if self.blocks[at] != ()]

    def extent(self):
        marked = [at for at in range(60) if self.seen(at) != ()]
        return marked[-1] + 1 if marked else 0


class BlocksTest(unittest.TestCase):
    def test_2_1_a_new_disk_is_blank(self):
        disk = Disk()
        for at in (0, 1, 2, 1000, MOST - 1, MOST):
            self.assertEqual(disk.read(at), ())
        self.assertEqual((disk.stored(), disk.pending, disk.armed, disk.extent), ([], 0, False, 0))

    def test_2_1_blocks(self):
        disk = Disk()
        for at, block in enumerate(BLOCKS):
            self.assertIsNone(disk.write(at, block))
            self.assertEqual(disk.read(at), block)
        self.assertIsNone(disk.sync())
        for at, block in enumerate(BLOCKS):
            self.assertEqual(disk.read(at), block)

    def test_2_1_what_is_no_block(self):
        wrong = [tuple(range(13)), tuple(range(100)), ("x",) * 13, nested(60), ((),), ("a", ()), ("a", (1,)), 5, "a"]
        wrong += [["a"], [1, 2]] + [(thing,) for thing in BEYOND + NO_TEXTS]
        wrong += odd_things() + [("a", odd) for odd in odd_things()] + [(odd, 1) for odd in odd_things()]
        disk = written_disk()
        before = disk_state(disk)
        for at, thing in enumerate(wrong):
            for index in (0, 3, MOST):
                with self.subTest(at=at, index=index):
                    with self.assertRaises(BadBlock):
                        disk.write(index, thing)
        self.assertEqual(disk_state(disk), before)

    def test_2_1_what_is_no_index(self):
        disk = written_disk()
        before = disk_state(disk)
        for at, thing in enumerate(NO_INDEXES):
            with self.subTest(at=at):
                with self.assertRaises(BadBlock):
                    disk.write(thing, ("a",))
                with self.assertRaises(BadBlock):
                    disk.write(thing, None)
                with self.assertRaises(BadBlock):
                    disk.read(thing)
        self.assertEqual(disk_state(disk), before)

    def test_2_1_the_greatest_index(self):
        disk = Disk()
        disk.write(MOST, ("end",))
        self.assertEqual((disk.read(MOST), disk.extent), (("end",), MOST + 1))
        disk.sync()
        self.assertEqual((disk.read(MOST), disk.extent, disk.stored()), (("end",), MOST + 1, [(MOST, ("end",))]))


def written_disk():
    """An armed disk with stored, torn and pending blocks."""
    disk = Disk()
    disk.write(2, ("b", 2))
    disk.write(3, ("c",))
    disk.write(0, ("a", 0))
    disk.lose_power(fates_of([1, 2, 1]))
    disk.write(2, ("new",))
    disk.write(5, ("five", 5))
    disk.write(2, ("newer",))
    disk.arm(fates_of([2, 1, 1]), after=2)
    return disk


class SyncTest(unittest.TestCase):
    def test_2_2_the_machine_sees_the_latest_pending_write(self):
        disk = Disk()
        disk.write(4, ("first",))
        self.assertEqual(disk.read(4), ("first",))
        disk.write(4, ("second",))
        disk.write(5, ("other",))
        self.assertEqual((disk.read(4), disk.read(5), disk.pending), (("second",), ("other",), 3))
        disk.write(4, ())
        self.assertEqual((disk.read(4), disk.pending, disk.stored()), ((), 4, []))

    def test_2_2_without_a_pending_write_it_sees_the_stored_block(self):
        disk = Disk()
        disk.write(4, ("stored",))
        disk.sync()
        self.assertEqual((disk.read(4), disk.read(5)), (("stored",), ()))
        disk.write(5, ("pending",))
        self.assertEqual((disk.read(4), disk.read(5)), (("stored",), ("pending",)))

    def test_2_3_a_sync_stores_in_the_order_of_the_writes(self):
        disk = Disk()
        for block in (("one",), ("two",), ("three",)):
            disk.write(7, block)
        disk.write(1, ("a",))
        self.assertEqual((disk.pending, disk.stored()), (4, []))
        disk.sync()
        self.assertEqual((disk.pending, disk.stored()), (0, [(1, ("a",)), (7, ("three",))]))

    def test_2_3_a_blank_block_can_be_stored(self):
        disk = Disk()
        disk.write(7, ("x",))
        disk.sync()
        disk.write(7, ())
        self.assertEqual(disk.stored(), [(7, ("x",))])
        disk.sync()
        self.assertEqual((disk.stored(), disk.read(7), disk.extent), ([], (), 0))

    def test_2_3_a_sync_without_pending_writes(self):
        disk = Disk()
        self.assertIsNone(disk.sync())
        self.assertEqual((disk.stored(), disk.pending), ([], 0))


class PowerLossTest(unittest.TestCase):
    def test_2_4_the_example(self):
        disk = Disk()
        disk.write(3, ("a", 1))
        disk.write(4, ("b",))
        disk.write(3, ("c",))
        self.assertIsNone(disk.lose_power(7))
        self.assertEqual(disk.read(3), ("a", 1))
        self.assertIsNone(disk.read(4))
        self.assertEqual(disk.stored(), [(3, ("a", 1)), (4, None)])

    def test_2_4_each_fate(self):
        for fate, wanted in ((0, ("old",)), (1, ("new",)), (2, None)):
            disk = Disk()
            disk.write(3, ("old",))
            disk.sync()
            disk.write(3, ("new",))
            disk.lose_power(fate)
            self.assertEqual((disk.read(3), disk.stored(), disk.pending), (wanted, [(3, wanted)], 0))

    def test_2_4_all_fates_of_four_writes(self):
        for indexes in itertools.product((0, 1), repeat=4):
            for digits in itertools.product((0, 1, 2), repeat=4):
                disk = Disk()
                plain = PlainDisk()
                for count, at in enumerate(indexes):
                    block = ("w", count) if count != 2 else ()
                    disk.write(at, block)
                    plain.pending.append((at, block))
                disk.lose_power(fates_of(digits))
                plain.end_pending(digits)
                with self.subTest(indexes=indexes, digits=digits):
                    self.assertEqual(disk.stored(), plain.stored())
                    self.assertEqual([disk.read(at) for at in range(3)], [plain.seen(at) for at in range(3)])
                    self.assertEqual((disk.pending, disk.extent), (0, plain.extent()))

    def test_2_4_digits_that_the_integer_does_not_have(self):
        disk = Disk()
        for at in range(5):
            disk.write(at, ("w",))
        disk.lose_power(fates_of([1, 2]))
        self.assertEqual((disk.stored(), disk.pending), ([(0, ("w",)), (1, None)], 0))

    def test_2_4_digits_beyond_the_pending_writes(self):
        for more in (0, 1, 2, 3, 8, 3 ** 40, FAR):
            disk = Disk()
            disk.write(6, ("w",))
            disk.write(7, ("w",))
            disk.lose_power(fates_of([1, 2]) + 9 * more)
            self.assertEqual((disk.stored(), disk.pending), ([(6, ("w",)), (7, None)], 0))

    def test_2_4_without_pending_writes(self):
        for fates in (0, 1, 2, 7, FAR):
            disk = Disk()
            disk.write(1, ("a",))
            disk.sync()
            disk.lose_power(fates)
            self.assertEqual((disk.stored(), disk.pending), ([(1, ("a",))], 0))

    def test_2_4_the_disk_is_not_armed_afterwards(self):
        disk = Disk()
        disk.arm(1)
        disk.lose_power(0)
        self.assertIs(disk.armed, False)
        disk.write(1, ("a",))
        disk.sync()
        self.assertEqual(disk.stored(), [(1, ("a",))])

    def test_2_4_what_is_no_integer_of_fates(self):
        disk = written_disk()
        before = disk_state(disk)
        for at, thing in enumerate(NO_COUNTS):
            with self.subTest(at=at):
                with self.assertRaises(BadValue):
                    disk.lose_power(thing)
        self.assertEqual(disk_state(disk), before)

    def test_2_5_a_torn_block_stays_torn_until_a_write_is_stored(self):
        disk = Disk()
        disk.write(2, ("a",))
        disk.lose_power(2)
        self.assertIsNone(disk.read(2))
        disk.sync()
        self.assertIsNone(disk.read(2))
        disk.write(2, ("b",))
        self.assertEqual((disk.read(2), disk.stored()), (("b",), [(2, None)]))
        disk.lose_power(0)
        self.assertIsNone(disk.read(2))
        disk.write(2, ("c",))
        disk.lose_power(2)
        self.assertIsNone(disk.read(2))
        disk.write(2, ("d",))
        disk.sync()
        self.assertEqual((disk.read(2), disk.stored()), (("d",), [(2, ("d",))]))

    def test_2_5_a_torn_block_is_mended_in_the_same_power_loss(self):
        disk = Disk()
        disk.write(2, ("a",))
        disk.write(2, ("b",))
        disk.lose_power(fates_of([2, 1]))
        self.assertEqual(disk.read(2), ("b",))
        disk.write(2, ("c",))
        disk.write(2, ("d",))
        disk.lose_power(fates_of([1, 2]))
        self.assertIsNone(disk.read(2))

    def test_2_5_a_torn_block_is_mended_by_a_blank_one(self):
        disk = Disk()
        disk.write(2, ("a",))
        disk.lose_power(2)
        disk.write(2, ())
        self.assertEqual((disk.read(2), disk.stored(), disk.extent), ((), [(2, None)], 0))
        disk.sync()
        self.assertEqual((disk.read(2), disk.stored()), ((), []))


class ArmTest(unittest.TestCase):
    def test_2_6_the_first_sync(self):
        disk = Disk()
        disk.write(0, ("a",))
        disk.write(1, ("b",))
        disk.write(2, ("c",))
        self.assertIsNone(disk.arm(fates_of([2, 0, 1])))
        self.assertIs(disk.armed, True)
        with self.assertRaises(PowerLoss):
            disk.sync()
        self.assertEqual((disk.stored(), disk.pending, disk.armed), ([(0, None), (2, ("c",))], 0, False))
        disk.write(1, ("d",))
        disk.sync()
        self.assertEqual(disk.read(1), ("d",))

    def test_2_6_later_syncs(self):
        for after in (0, 1, 2, 5):
            disk = Disk()
            disk.arm(0, after=after)
            for at in range(after):
                disk.write(at, ("w", at))
                disk.sync()
                self.assertIs(disk.armed, True)
            disk.write(after, ("lost",))
            with self.assertRaises(PowerLoss):
                disk.sync()
            self.assertEqual(disk.stored(), [(at, ("w", at)) for at in range(after)])
            self.assertIs(disk.armed, False)
            disk.sync()

    def test_2_6_a_sync_without_pending_writes_counts(self):
        disk = Disk()
        disk.arm(1, after=2)
        disk.sync()
        disk.sync()
        self.assertIs(disk.armed, True)
        with self.assertRaises(PowerLoss):
            disk.sync()
        self.assertIs(disk.armed, False)

    def test_2_6_a_sync_without_pending_writes_loses_power(self):
        disk = Disk()
        disk.write(1, ("a",))
        disk.sync()
        disk.arm(fates_of([2, 2]))
        with self.assertRaises(PowerLoss):
            disk.sync()
        self.assertEqual((disk.stored(), disk.armed), ([(1, ("a",))], False))

    def test_2_6_arming_anew_replaces_fates_and_count(self):
        disk = Disk()
        disk.arm(0, after=0)
        disk.arm(1, after=1)
        disk.write(0, ("a",))
        disk.sync()
        disk.write(1, ("b",))
        disk.write(2, ("c",))
        with self.assertRaises(PowerLoss):
            disk.sync()
        self.assertEqual(disk.stored(), [(0, ("a",)), (1, ("b",))])
        disk.arm(1, after=5)
        disk.arm(2)
        disk.write(3, ("d",))
        with self.assertRaises(PowerLoss):
            disk.sync()
        self.assertIsNone(disk.read(3))

    def test_2_6_arming_anew_counts_from_then_on(self):
        disk = Disk()
        disk.arm(1, after=3)
        disk.sync()
        disk.sync()
        disk.arm(1, after=2)
        disk.sync()
        disk.sync()
        with self.assertRaises(PowerLoss):
            disk.sync()

    def test_2_6_disarming(self):
        disk = Disk()
        self.assertIsNone(disk.disarm())
        disk.arm(0)
        self.assertIsNone(disk.disarm())
        self.assertIs(disk.armed, False)
        disk.write(0, ("a",))
        disk.sync()
        self.assertEqual(disk.stored(), [(0, ("a",))])

    def test_2_6_vast_fates_and_counts(self):
        disk = Disk()
        disk.arm(FAR, after=FAR)
        disk.write(0, ("a",))
        disk.sync()
        self.assertEqual((disk.stored(), disk.armed), ([(0, ("a",))], True))

    def test_2_6_arguments_that_are_refused(self):
        disk = written_disk()
        blank = Disk()
        before = disk_state(disk)
        for at, thing in enumerate(NO_COUNTS):
            with self.subTest(at=at):
                for other in (disk, blank):
                    with self.assertRaises(BadValue):
                        other.arm(thing)
                    with self.assertRaises(BadValue):
                        other.arm(thing, after=1)
                    with self.assertRaises(BadValue):
                        other.arm(1, after=thing)
        self.assertEqual(disk_state(disk), before)
        self.assertIs(blank.armed, False)

    def test_2_6_after_is_passed_by_keyword(self):
        with self.assertRaises(TypeError):
            Disk().arm(1, 0)


class ExtentTest(unittest.TestCase):
    def test_2_7_extent(self):
        disk = Disk()
        self.assertEqual(disk.extent, 0)
        disk.write(0, ("a",))
        self.assertEqual(disk.extent, 1)
        disk.write(8, ("b",))
        self.assertEqual(disk.extent, 9)
        disk.write(8, ())
        self.assertEqual(disk.extent, 1)
        disk.write(8, ("c",))
        disk.sync()
        self.assertEqual(disk.extent, 9)
        disk.write(8, ())
        self.assertEqual(disk.extent, 1)
        disk.write(0, ())
        self.assertEqual(disk.extent, 0)
        disk.write(3, ("d",))
        self.assertEqual(disk.extent, 4)
        disk.lose_power(0)
        self.assertEqual(disk.extent, 9)

    def test_2_7_a_blank_block_far_behind_does_not_count(self):
        disk = Disk()
        disk.write(900, ())
        self.assertEqual(disk.extent, 0)
        disk.sync()
        self.assertEqual(disk.extent, 0)

    def test_2_7_torn_blocks(self):
        disk = Disk()
        disk.write(5, ("a",))
        disk.lose_power(2)
        self.assertEqual(disk.extent, 6)
        disk.write(5, ())
        self.assertEqual(disk.extent, 0)
        disk.write(4, ("b",))
        self.assertEqual(disk.extent, 5)
        disk.lose_power(0)
        self.assertEqual(disk.extent, 6)

    def test_stored_is_a_new_list_without_pending_writes(self):
        disk = written_disk()
        wanted = [(0, ("a", 0)), (2, ("b", 2)), (3, None)]
        stored = disk.stored()
        self.assertEqual(stored, wanted)
        self.assertIs(type(stored[0]), tuple)
        stored.clear()
        self.assertEqual(disk.stored(), wanted)

    def test_stored_is_in_ascending_order(self):
        disk = Disk()
        for at in (9, 2, 30, 0, 10):
            disk.write(at, ("w", at))
        disk.sync()
        self.assertEqual([at for at, _ in disk.stored()], [0, 2, 9, 10, 30])


class CloneTest(unittest.TestCase):
    def test_2_8_a_clone_is_in_the_same_state(self):
        for disk in (Disk(), written_disk()):
            self.assertEqual(disk_state(disk.clone()), disk_state(disk))
            self.assertIs(type(disk.clone()), Disk)

    def test_2_8_neither_has_an_effect_on_the_other(self):
        def write(disk):
            disk.write(2, ("w",))
            disk.write(9, ("w",))

        def disarm(disk):
            disk.disarm()

        def arm(disk):
            disk.arm(1, after=7)

        def sync(disk):
            disk.sync()

        def lose(disk):
            disk.lose_power(fates_of([0, 2, 1]))

        def mend(disk):
            disk.disarm()
            disk.write(3, ())
            disk.sync()

        for change in (write, disarm, arm, sync, lose, mend):
            with self.subTest(change=change.__name__):
                disk = written_disk()
                before = disk_state(disk)
                other = disk.clone()
                change(other)
                self.assertNotEqual(disk_state(other), before)
                self.assertEqual(disk_state(disk), before)
                other = disk.clone()
                change(disk)
                self.assertNotEqual(disk_state(disk), before)
                self.assertEqual(disk_state(other), before)

    def test_2_8_both_count_their_syncs(self):
        disk = Disk()
        disk.arm(0, after=1)
        other = disk.clone()
        disk.sync()
        with self.assertRaises(PowerLoss):
            disk.sync()
        other.sync()
        with self.assertRaises(PowerLoss):
            other.sync()

    def test_0_4_two_disks_have_no_effect_on_each_other(self):
        one = Disk()
        other = Disk()
        one.write(1, ("a",))
        one.sync()
        one.write(2, ("b",))
        one.arm(1)
        self.assertEqual(disk_state(other), disk_state(Disk()))


class RandomDisksTest(unittest.TestCase):
    def test_2_2_to_2_7_against_the_plain_disk(self):
        for seed in range(150):
            rng = random.Random(seed)
            disk = Disk()
            plain = PlainDisk()
            for step in range(60):
                self.do_step(rng, disk, plain)
                self.assertEqual([disk.read(at) for at in range(8)], [plain.seen(at) for at in range(8)])
                self.assertEqual((disk.pending, disk.extent), (len(plain.pending), plain.extent()))
                self.assertEqual(disk.stored(), plain.stored())

    def do_step(self, rng, disk, plain):
        word = rng.choice(["write"] * 6 + ["sync", "lose", "armed"])
        digits = [rng.randrange(3) for _ in range(len(plain.pending))]
        if word == "write":
            at = rng.randrange(8)
            block = rng.choice([(), ("a", rng.randrange(9)), ("b",)])
            disk.write(at, block)
            plain.pending.append((at, block))
        elif word == "sync":
            disk.sync()
            plain.end_pending([1] * len(plain.pending))
        elif word == "lose":
            disk.lose_power(fates_of(digits))
            plain.end_pending(digits)
        else:
            disk.arm(fates_of(digits))
            with self.assertRaises(PowerLoss):
                disk.sync()
            plain.end_pending(digits)


if __name__ == "__main__":
    unittest.main()

import itertools
import random
import unittest

from appendhall.disk import Disk
from appendhall.errors import BadBlock, BadValue, PowerLoss
from appendhall.frames import frame_blocks, read_frame
from appendhall.tape import Tape
from appendhall.words import to_words
from tests.samples import (
    BEYOND, MOST, NO_TEXTS, VALUES, SpyDisk, disk_state, doubled, fates_of, nested, odd_things,
)

# Entries of one, two and three blocks.
ONE, TWO, THREE = "one", ("two", 1, 2, 3), tuple(range(11))


def put(disk, blocks):
    """Store blocks, and leave no trace of it in a SpyDisk."""
    for at, block in blocks.items():
        disk.write(at, block)
    disk.sync()
    if isinstance(disk, SpyDisk):
        disk.done.clear()
    return disk


def tear(disk, *indexes):
    for at in indexes:
        disk.write(at, ("torn",))
    disk.lose_power(3 ** len(indexes) - 1)
    if isinstance(disk, SpyDisk):
        disk.done.clear()
    return disk


def frames(at, generation, values, first=1):
    """The blocks of the frames of entries, by their indexes."""
    blocks = {}
    for number, value in enumerate(values, first):
        for block in frame_blocks(generation, number, to_words(value)):
            blocks[at + len(blocks)] = block
    return blocks


def size_of(values):
    return len(frames(0, 0, values))


def view(tape):
    return tape.entries(), tape.generation, tape.end, len(tape), list(tape)


class OpeningTest(unittest.TestCase):
    def check(self, disk, values, generation, end):
        tape = Tape(disk)
        self.assertEqual(view(tape), (values, generation, end, len(values), values))
        return tape

    def test_the_example(self):
        disk = Disk()
        tape = Tape(disk)
        tape.append(("epoch", 3))
        tape.sync()
        tape.append("lost")
        disk.lose_power(0)
        again = Tape(disk)
        self.assertEqual(again.entries(), [("epoch", 3)])
        again.rewrite([7, 8])
        self.assertEqual((again.generation, again.end, disk.read(1)), (1, 5, ("head", 1, 3)))

    def test_2_13_a_new_disk(self):
        disk = SpyDisk()
        disk.arm(1)
        self.check(disk, [], 0, 2)
        self.assertEqual((disk.done, disk.armed, disk.stored()), ([], True, []))

    def test_2_11_one_head(self):
        for at, generation, start in ((1, 1, 2), (1, 1, 7), (0, 2, 5), (1, 3, 40), (0, 100, 5), (1, 10 ** 17 + 1, 3)):
            self.check(put(Disk(), {at: ("head", generation, start)}), [], generation, start)
            blocks = frames(start, generation, [ONE, TWO])
            disk = put(Disk(), {at: ("head", generation, start), **blocks})
            self.check(disk, [ONE, TWO], generation, start + 3)

    def test_2_11_the_greatest_generation_counts(self):
        for even, odd in ((2, 1), (2, 3), (4, 1), (4, 5), (4, 9), (10, 9)):
            disk = put(Disk(), {0: ("head", even, 50), 1: ("head", odd, 30)})
            put(disk, frames(50, even, ["even", TWO]))
            put(disk, frames(30, odd, ["odd"]))
            if even > odd:
                self.check(disk, ["even", TWO], even, 53)
            else:
                self.check(disk, ["odd"], odd, 31)

    def test_2_11_no_heads(self):
        wrong = [
            (), ("head",), ("head", 2), ("head", 1), ("head", 0, 5), ("head", -1, 5), ("head", -2, 5), ("head", 3, 0),
            ("head", 3, 1), ("head", 4, 0), ("head", 4, 1), ("head", 3, -5), ("head", 4, -5), ("head", 3, 5, 0),
            ("head", 4, 5, 0), ("head", 3, 5, "x"), ("head", 4, 5, ""), ("Head", 3, 5), ("Head", 4, 5), ("", 3, 5),
            ("", 4, 5), (5, 3, 5), (5, 4, 5), ("head", "3", 5), ("head", "4", 5), ("head", 3, "5"), ("head", 4, "5"),
            ("head", "", ""), (3, 5), (4, 5), ("heads", 3, 5), ("head ", 4, 5),
        ]
        for at in (0, 1):
            wrong_parity = ("head", 5 - at, 5)
            for block in wrong + [wrong_parity]:
                with self.subTest(at=at, block=block):
                    self.check(put(Disk(), {at: block}), [], 0, 2)
                    self.check(put(Disk(), {at: block, **frames(2, 0, [ONE])}), [ONE], 0, 3)
                    head = {1 - at: ("head", 2 if at else 1, 9)}
                    disk = put(Disk(), {at: block, **head, **frames(9, 2 if at else 1, [ONE, 5])})
                    self.check(disk, [ONE, 5], 2 if at else 1, 11)

    def test_2_11_a_start_of_2_and_wrong_parities_in_both_blocks(self):
        self.check(put(Disk(), {1: ("head", 3, 2), **frames(2, 3, [TWO])}), [TWO], 3, 4)
        self.check(put(Disk(), {0: ("head", 4, 2), **frames(2, 4, [TWO])}), [TWO], 4, 4)
        self.check(put(Disk(), {0: ("head", 5, 9), 1: ("head", 6, 9), **frames(9, 5, [ONE])}), [], 0, 2)

    def test_2_11_torn_heads(self):
        blocks = {0: ("head", 2, 9), 1: ("head", 3, 20), **frames(9, 2, [ONE]), **frames(20, 3, [TWO])}
        self.check(tear(put(Disk(), blocks), 1), [ONE], 2, 10)
        self.check(tear(put(Disk(), blocks), 0), [TWO], 3, 22)
        self.check(tear(put(Disk(), {**blocks, **frames(2, 0, [5, 6])}), 0, 1), [5, 6], 0, 4)

    def test_2_11_heads_are_not_mended(self):
        disk = put(SpyDisk(), {0: ("head", 5, 9), 1: ("rubbish",), **frames(2, 0, [ONE])})
        self.check(tear(disk, 0), [ONE], 0, 3)
        self.assertEqual(disk.done, [])

    def test_2_11_pending_blocks_are_read(self):
        disk = Disk()
        disk.write(1, ("head", 1, 4))
        for at, block in frames(4, 1, [ONE, TWO]).items():
            disk.write(at, block)
        self.check(disk, [ONE, TWO], 1, 7)
        self.assertEqual(disk.pending, 4)

    def test_2_12_entries_of_all_kinds(self):
        disk = put(Disk(), frames(2, 0, VALUES))
        self.check(disk, VALUES, 0, 2 + size_of(VALUES))

    def test_2_12_the_first_frame_begins_at_the_start(self):
        self.check(put(Disk(), frames(3, 0, [ONE])), [], 0, 2)
        self.check(put(Disk(), {1: ("head", 1, 4), **frames(5, 1, [ONE])}), [], 1, 4)
        self.check(put(Disk(), {1: ("head", 1, 4), **frames(2, 0, [ONE]), **frames(4, 1, [TWO])}), [TWO], 1, 6)

    def test_2_12_each_block_that_is_missing_torn_or_changed(self):
        values = [ONE, TWO, THREE, ONE]
        ends = [2 + size_of(values[:count]) for count in range(5)]
        for at in range(2, ends[-1]):
            held = len([end for end in ends if end <= at]) - 1
            for other in ((), ("other",), (0, 9, 0, 1, "i", 5), (1, 1, 0, 1, "i", 5)):
                disk = put(Disk(), {**frames(2, 0, values), at: other})
                self.check(disk, values[:held], 0, ends[held])
            disk = tear(put(Disk(), frames(2, 0, values)), at)
            self.check(disk, values[:held], 0, ends[held])

    def test_2_12_another_generation_or_number(self):
        for generation in (1, 2, 7):
            blocks = {**frames(2, 0, [ONE]), **frames(3, generation, [TWO], first=2)}
            self.check(put(Disk(), blocks), [ONE], 0, 3)
            self.check(put(Disk(), frames(2, generation, [ONE])), [], 0, 2)
        for number in (0, 1, 3, 4):
            blocks = {**frames(2, 0, [ONE]), **frames(3, 0, [TWO], first=number)}
            self.check(put(Disk(), blocks), [ONE], 0, 3)
        for number in (0, 2):
            self.check(put(Disk(), frames(2, 0, [ONE], first=number)), [], 0, 2)

    def test_2_12_words_that_are_no_value(self):
        lists = [
            ["i"], ["i", 5, "i", 6], ["t", 2, "i", 5], ["x", 5], ["s", 5], ["t", 1] * 13 + ["i", 5],
            ["t", 1] * 12 + ["t", 0], ["i", 5] * 9, [0], ["t", MOST], ["s", "a", "t"], ["i", "5"], ["t", -1],
        ]
        for words in lists:
            blocks = frame_blocks(0, 2, words)
            behind = frames(3 + len(blocks), 0, [ONE], first=3)
            disk = put(Disk(), {**frames(2, 0, [TWO[0]]), **dict(enumerate(blocks, 3)), **behind})
            self.check(disk, [TWO[0]], 0, 3)
            self.assertEqual(disk.extent, 3)

    def test_2_12_the_end_of_the_disk(self):
        disk = put(Disk(), {1: ("head", 1, MOST - 2), **frames(MOST - 2, 1, [ONE, TWO])})
        self.check(disk, [ONE, TWO], 1, MOST + 1)
        disk = put(Disk(), {1: ("head", 1, MOST - 2), **dict(list(frames(MOST - 2, 1, [ONE, THREE]).items())[:3])})
        self.check(disk, [ONE], 1, MOST - 1)
        self.check(put(Disk(), {1: ("head", 1, MOST)}), [], 1, MOST)

    def test_2_13_mending(self):
        disk = put(SpyDisk(), {0: ("keep",), 9: ("a",), 4: ("b",), 6: ("c",), 2: (0, 1, 0, 1, "i", 5), 30: ("d",)})
        tear(disk, 5, 8)
        self.check(disk, [5], 0, 3)
        self.assertEqual(disk.done, [(at, ()) for at in (4, 5, 6, 8, 9, 30)] + ["sync"])
        self.assertEqual((disk.stored(), disk.pending), ([(0, ("keep",)), (2, (0, 1, 0, 1, "i", 5))], 0))

    def test_2_13_mending_at_the_end_of_the_tape(self):
        disk = put(SpyDisk(), {2: ("a",)})
        self.check(disk, [], 0, 2)
        self.assertEqual((disk.done, disk.extent), ([(2, ()), "sync"], 0))

    def test_2_13_a_pending_write_behind_the_end_is_mended(self):
        disk = SpyDisk()
        disk.write(7, ("pending",))
        disk.done.clear()
        self.check(disk, [], 0, 2)
        self.assertEqual((disk.done, disk.stored(), disk.pending), ([(7, ()), "sync"], [], 0))

    def test_2_13_blocks_below_the_start_are_not_mended(self):
        disk = put(SpyDisk(), {2: ("old",), 3: ("old",), 1: ("head", 1, 6), 6: ("new",)})
        self.check(disk, [], 1, 6)
        self.assertEqual(disk.done, [(6, ()), "sync"])
        self.assertEqual(disk.stored(), [(1, ("head", 1, 6)), (2, ("old",)), (3, ("old",))])

    def test_2_13_nothing_to_mend(self):
        for blocks in ({}, frames(2, 0, [ONE, TWO, THREE]), {1: ("head", 1, 90), **frames(2, 0, [ONE])}):
            disk = put(SpyDisk(), blocks)
            disk.arm(0)
            before = disk_state(disk)
            Tape(disk)
            self.assertEqual((disk.done, disk_state(disk)), ([], before))

    def test_2_13_blank_writes_that_are_pending_are_nothing_to_mend(self):
        disk = put(SpyDisk(), {5: ("a",)})
        disk.write(5, ())
        disk.done.clear()
        self.check(disk, [], 0, 2)
        self.assertEqual((disk.done, disk.pending), ([], 1))

    def test_2_13_opening_an_armed_disk_with_something_to_mend(self):
        disk = put(SpyDisk(), {**frames(2, 0, [ONE]), 5: ("a",), 6: ("b",)})
        disk.arm(fates_of([1, 2]))
        with self.assertRaises(PowerLoss):
            Tape(disk)
        self.assertEqual((disk.read(5), disk.read(6), disk.armed, disk.pending), ((), None, False, 0))
        self.check(disk, [ONE], 0, 3)

    def test_2_13_a_disk_of_the_greatest_extent(self):
        disk = put(Disk(), {2 + 10 ** 6 - 1: ("far",), 1000: ("near",)})
        self.check(disk, [], 0, 2)
        self.assertEqual(disk.stored(), [])


class AppendTest(unittest.TestCase):
    def test_2_14_an_entry_is_pending_until_a_sync(self):
        disk = SpyDisk()
        tape = Tape(disk)
        self.assertIsNone(tape.append(TWO))
        self.assertEqual(view(tape), ([TWO], 0, 4, 1, [TWO]))
        self.assertEqual(disk.done, list(frames(2, 0, [TWO]).items()))
        self.assertEqual((disk.pending, disk.stored()), (2, []))
        tape.append(ONE)
        tape.append(THREE)
        self.assertEqual(view(tape), ([TWO, ONE, THREE], 0, 8, 3, [TWO, ONE, THREE]))
        self.assertEqual(disk.done, list(frames(2, 0, [TWO, ONE, THREE]).items()))
        self.assertIsNone(tape.sync())
        self.assertEqual((disk.done[-1], disk.pending), ("sync", 0))
        self.assertEqual(disk.stored(), sorted(frames(2, 0, [TWO, ONE, THREE]).items()))

    def test_2_14_all_values_come_back(self):
        disk = Disk()
        tape = Tape(disk)
        for value in VALUES:
            tape.append(value)
        tape.sync()
        self.assertEqual(view(Tape(disk)), view(tape))
        self.assertEqual(tape.entries(), VALUES)

    def test_2_14_appending_to_a_tape_that_was_opened(self):
        disk = put(Disk(), {0: ("head", 2, 9), **frames(9, 2, [ONE, TWO])})
        tape = Tape(disk)
        tape.append(5)
        self.assertEqual((disk.read(12), tape.end), ((2, 3, 0, 1, "i", 5), 13))
        tape.sync()
        self.assertEqual(Tape(disk).entries(), [ONE, TWO, 5])

    def test_2_14_a_sync_of_an_armed_disk(self):
        disk = Disk()
        tape = Tape(disk)
        tape.append(ONE)
        disk.arm(1, after=1)
        tape.sync()
        with self.assertRaises(PowerLoss):
            tape.sync()

    def test_2_16_what_is_no_value(self):
        things = odd_things() + BEYOND + NO_TEXTS + [nested(13), nested(60), doubled(60), (1, [2]), ("a", None), [5]]
        disk = SpyDisk()
        tape = Tape(disk)
        tape.append(ONE)
        disk.done.clear()
        before = view(tape), disk_state(disk)
        for at, thing in enumerate(things):
            with self.subTest(at=at):
                with self.assertRaises(BadValue):
                    tape.append(thing)
                for values in ([thing], [ONE, thing], [thing, ONE], [1, 2, 3, thing]):
                    with self.assertRaises(BadValue):
                        tape.rewrite(values)
        self.assertEqual(((view(tape), disk_state(disk)), disk.done), (before, []))

    def test_2_16_a_new_end_above_the_greatest_number(self):
        # How far the end is below the greatest number, and what fits there.
        for room, fitting, too_long in (
            (0, [[]], [[ONE], [TWO]]), (1, [[ONE], []], [[TWO], [ONE, ONE], [THREE]]),
            (2, [[TWO], [ONE, ONE]], [[THREE], [ONE, TWO]]), (3, [[THREE], [ONE, TWO]], [[THREE, ONE], [TWO, TWO]]),
        ):
            for values in fitting:
                self.check_fitting(room, values)
            for values in too_long:
                self.check_too_long(room, values)

    def disk_with_room(self, room):
        return put(SpyDisk(), {1: ("head", 1, MOST - room)})

    def check_fitting(self, room, values):
        tape = Tape(self.disk_with_room(room))
        for value in values:
            tape.append(value)
        self.assertEqual((tape.entries(), tape.end), (values, MOST - room + size_of(values)))
        disk = self.disk_with_room(room)
        tape = Tape(disk)
        tape.rewrite(values)
        self.assertEqual((tape.entries(), tape.end), (values, MOST - room + size_of(values)))
        self.assertEqual(view(Tape(disk)), view(tape))

    def check_too_long(self, room, values):
        disk = self.disk_with_room(room)
        disk.arm(1)
        tape = Tape(disk)
        before = view(tape), disk_state(disk)
        with self.assertRaises(BadBlock):
            tape.rewrite(values)
        # BadValue comes first.
        with self.assertRaises(BadValue):
            tape.rewrite(values + [None])
        with self.assertRaises(BadValue):
            tape.rewrite([nested(13)] + values)
        self.assertEqual(((view(tape), disk_state(disk)), disk.done), (before, []))
        for value in values[:-1]:
            tape.append(value)
        before = view(tape), disk_state(disk), list(disk.done)
        with self.assertRaises(BadBlock):
            tape.append(values[-1])
        with self.assertRaises(BadValue):
            tape.append((values[-1], None))
        self.assertEqual((view(tape), disk_state(disk), disk.done), before)

    def test_2_16_an_old_end_above_the_greatest_number(self):
        disk = put(SpyDisk(), {1: ("head", 1, MOST - 1), **frames(MOST - 1, 1, [TWO])})
        tape = Tape(disk)
        for values in ([], [ONE]):
            with self.assertRaises(BadBlock):
                tape.rewrite(values)
        with self.assertRaises(BadBlock):
            tape.append(ONE)
        self.assertEqual((view(tape), disk.done), (([TWO], 1, MOST + 1, 1, [TWO]), []))

    def test_0_4_the_list_of_entries_is_new(self):
        tape = Tape(Disk())
        tape.append(ONE)
        tape.entries().append("more")
        self.assertEqual((tape.entries(), len(tape)), ([ONE], 1))

    def test_0_4_two_tapes_have_no_effect_on_each_other(self):
        one, other = Tape(Disk()), Tape(Disk())
        one.append(ONE)
        one.rewrite([ONE, TWO])
        self.assertEqual(view(other), ([], 0, 2, 0, []))


class RewriteTest(unittest.TestCase):
    def test_2_15_the_steps(self):
        for values in ([], [ONE], [TWO], [THREE, ONE, 5, TWO], VALUES):
            disk = SpyDisk()
            tape = Tape(disk)
            tape.append(THREE)
            tape.sync()
            tape.append(ONE)
            disk.done.clear()
            self.assertIsNone(tape.rewrite(values))
            wanted = list(frames(6, 1, values).items()) + ["sync", (1, ("head", 1, 6)), "sync"]
            self.assertEqual(disk.done, wanted)
            self.assertEqual(view(tape), (values, 1, 6 + size_of(values), len(values), values))
            self.assertEqual(view(Tape(disk)), view(tape))
            self.assertEqual(disk.pending, 0)

    def test_2_15_rewriting_again(self):
        disk = SpyDisk()
        tape = Tape(disk)
        end = 2
        for generation in range(1, 8):
            values = [("entry", generation, at) for at in range(generation % 3)]
            disk.done.clear()
            tape.rewrite(values)
            head = (generation % 2, ("head", generation, end))
            self.assertEqual(disk.done, list(frames(end, generation, values).items()) + ["sync", head, "sync"])
            end += size_of(values)
            self.assertEqual(view(tape), (values, generation, end, len(values), values))
            self.assertEqual(view(Tape(disk.clone())), view(tape))

    def test_2_15_appending_behind_a_rewrite(self):
        disk = Disk()
        tape = Tape(disk)
        tape.append(ONE)
        tape.rewrite([])
        tape.append(TWO)
        self.assertEqual((tape.entries(), disk.read(3)[:4]), ([TWO], (1, 1, 0, 2)))
        tape.sync()
        tape.rewrite([5, 6])
        tape.append(7)
        self.assertEqual(disk.read(7)[:4], (2, 3, 0, 1))
        tape.sync()
        self.assertEqual(view(Tape(disk)), ([5, 6, 7], 2, 8, 3, [5, 6, 7]))

    def test_0_4_the_list_that_is_passed_is_not_changed_or_kept(self):
        values = [ONE, TWO]
        tape = Tape(Disk())
        tape.rewrite(values)
        tape.append(5)
        self.assertEqual(values, [ONE, TWO])
        values.clear()
        self.assertEqual(tape.entries(), [ONE, TWO, 5])


class PowerLossTest(unittest.TestCase):
    """What point 2.18 says."""

    def whole(self, values, digits):
        """The first so many entries whose frames are stored whole."""
        held = []
        for value in values:
            own, digits = digits[:size_of([value])], digits[size_of([value]):]
            if any(digit != 1 for digit in own):
                return held
            held.append(value)
        return held

    def check_reopened(self, disk, values):
        """Open the tape of a disk: it has these entries and can be used."""
        tape = Tape(disk)
        self.assertEqual(tape.entries(), values)
        self.assertLessEqual(disk.extent, tape.end)
        more = disk.clone()
        tape = Tape(more)
        tape.append(TWO)
        tape.sync()
        self.assertEqual(Tape(more).entries(), values + [TWO])
        tape = Tape(more)
        tape.rewrite([5])
        self.assertEqual(Tape(more).entries(), [5])

    def test_2_18_pending_entries_by_all_fates(self):
        for stored, added in (([], [ONE, ONE, TWO]), ([THREE], [TWO, ONE, ONE]), ([ONE, ONE], [THREE, ONE])):
            for digits in itertools.product((0, 1, 2), repeat=size_of(added)):
                disk = Disk()
                tape = Tape(disk)
                for value in stored:
                    tape.append(value)
                tape.sync()
                for value in added:
                    tape.append(value)
                disk.lose_power(fates_of(digits))
                with self.subTest(added=added, digits=digits):
                    self.check_reopened(disk, stored + self.whole(added, digits))

    def test_2_18_a_sync_of_the_tape_that_loses_power(self):
        for digits in itertools.product((0, 1, 2), repeat=4):
            disk = Disk()
            tape = Tape(disk)
            tape.append(ONE)
            disk.arm(fates_of(digits), after=1)
            tape.sync()
            for value in (TWO, ONE, ONE):
                tape.append(value)
            with self.assertRaises(PowerLoss):
                tape.sync()
            self.check_reopened(disk, [ONE] + self.whole([TWO, ONE, ONE], digits))

    def rewritten(self, rounds, digits, after):
        """The disk of a tape with stored and pending entries that loses power while it is rewritten."""
        disk = Disk()
        tape = Tape(disk)
        tape.append(THREE)
        tape.sync()
        for at in range(rounds):
            tape.rewrite([("round", at), TWO])
        stored = tape.entries()
        tape.append(TWO)
        tape.append(ONE)
        disk.arm(fates_of(digits), after=after)
        with self.assertRaises(PowerLoss):
            tape.rewrite([7, TWO])
        return disk, stored

    def test_2_18_the_first_sync_of_a_rewrite(self):
        for rounds in (0, 1, 2):
            for digits in itertools.product((0, 1, 2), repeat=6):
                disk, stored = self.rewritten(rounds, digits, 0)
                self.check_reopened(disk, stored + self.whole([TWO, ONE], digits))

    def test_2_18_the_second_sync_of_a_rewrite(self):
        for rounds in (0, 1, 2, 3):
            for digit in (0, 1, 2):
                disk, stored = self.rewritten(rounds, [digit], 1)
                self.check_reopened(disk, [7, TWO] if digit == 1 else stored + [TWO, ONE])

    def test_2_18_behind_a_rewrite(self):
        disk = Disk()
        tape = Tape(disk)
        disk.arm(0, after=2)
        tape.rewrite([7, TWO])
        tape.append(ONE)
        with self.assertRaises(PowerLoss):
            tape.sync()
        self.check_reopened(disk, [7, TWO])

    def test_2_18_while_a_tape_is_opened(self):
        added = [ONE, TWO, THREE]
        for left in itertools.product((0, 1, 2), repeat=6):
            if sum(digit != 0 for digit in left) > 3:
                continue
            disk = Disk()
            tape = Tape(disk)
            for value in added:
                tape.append(value)
            disk.lose_power(fates_of(left))
            values = self.whole(added, left)
            count = len([at for at in range(2 + size_of(values), 8) if disk.read(at) != ()])
            if count:
                self.check_lost_while_opened(disk, values, count)

    def check_lost_while_opened(self, disk, values, count):
        for digits in itertools.product((0, 1, 2), repeat=count):
            other = disk.clone()
            other.arm(fates_of(digits))
            with self.assertRaises(PowerLoss):
                Tape(other)
            self.check_reopened(other, values)

    def test_2_18_several_times_one_behind_another(self):
        for seed in range(120):
            rng = random.Random(seed)
            disk = Disk()
            values = []
            for _ in range(12):
                values = self.lose_at_random(rng, disk, values)
                opened = self.opened_at_last(rng, disk, values)
                self.assertEqual(opened.entries(), values)

    def opened_at_last(self, rng, disk, values):
        """Open a tape, with some power losses while it is opened."""
        for _ in range(rng.randrange(4)):
            disk.arm(rng.randrange(3 ** 12))
            try:
                self.assertEqual(Tape(disk).entries(), values)
            except PowerLoss:
                continue
        disk.disarm()
        return Tape(disk)

    def lose_at_random(self, rng, disk, values):
        """Use a tape until it loses power, and return the entries that it then has."""
        tape = Tape(disk)
        self.assertEqual(tape.entries(), values)
        stored, added = list(values), []
        for _ in range(rng.randrange(6)):
            word = rng.choice(("append", "append", "sync", "rewrite"))
            if word == "append":
                added.append(self.random_value(rng))
                tape.append(added[-1])
            elif word == "sync":
                tape.sync()
                stored, added = stored + added, []
            else:
                stored, added = [self.random_value(rng) for _ in range(rng.randrange(4))], []
                tape.rewrite(stored)
        return self.end_at_random(rng, disk, tape, stored, added)

    def end_at_random(self, rng, disk, tape, stored, added):
        digits = [rng.choice((0, 1, 1, 1, 2)) for _ in range(40)]
        word = rng.choice(("disk", "sync", "first", "second"))
        if word == "disk":
            disk.lose_power(fates_of(digits))
            return stored + self.whole(added, digits)
        disk.arm(fates_of(digits), after=int(word == "second"))
        new = [self.random_value(rng) for _ in range(rng.randrange(4))]
        with self.assertRaises(PowerLoss):
            if word == "sync":
                tape.sync()
            else:
                tape.rewrite(new)
        if word == "second":
            return new if digits[0] == 1 else stored + added
        return stored + self.whole(added, digits)

    def random_value(self, rng):
        return rng.choice((ONE, TWO, THREE, rng.randrange(100), ("entry", rng.randrange(100)), ()))


class FramesOnTheDiskTest(unittest.TestCase):
    def test_2_12_the_frames_can_be_read(self):
        disk = Disk()
        tape = Tape(disk)
        tape.append(ONE)
        tape.rewrite([TWO, 5])
        self.assertEqual(read_frame(disk, 2, 0, 1), (to_words(ONE), 3))
        self.assertEqual(read_frame(disk, 3, 1, 1), (to_words(TWO), 5))
        self.assertEqual(read_frame(disk, 5, 1, 2), (to_words(5), 6))


if __name__ == "__main__":
    unittest.main()

import itertools
import unittest

from appendhall.disk import Disk
from appendhall.errors import PowerLoss, TooFew
from appendhall.journal import Journal
from appendhall.log import Log
from appendhall.recovery import recover
from appendhall.space import Space
from tests.halls import led
from tests.samples import disk_state

NEW = (0, Space().to_image(), ())


def record(number, mark):
    return (0, number, ("append", "/a", f"{mark}{number}"))


def value_of(length, base=0, mark="r"):
    return (base, mark, tuple(record(number, mark) for number in range(base + 1, length + 1)))


def disk_of(epoch, length, base=0, mark="r", promise=None):
    """The disk of a journal with this epoch and a log of this length."""
    disk = Disk()
    journal = Journal(0, disk)
    if epoch > 0:
        journal.handle(("sync", epoch, value_of(length, base, mark)))
    if promise is not None:
        journal.handle(("promise", promise))
    return disk


def all_of(disk):
    return disk_state(disk), disk.clone().stored()


class RecoverTest(unittest.TestCase):
    def check(self, disks, journals, wanted):
        before = [all_of(disk) for disk in disks]
        passed = list(disks)
        log = recover(passed, journals=journals)
        self.assertIs(type(log), Log)
        self.assertEqual(log.value(), wanted)
        self.assertEqual([all_of(disk) for disk in disks], before)
        self.assertEqual(passed, disks)

    def test_10_1_new_disks(self):
        for journals in range(1, 8):
            for count in range(journals // 2 + 1, journals + 1):
                self.check([Disk() for _ in range(count)], journals, NEW)

    def test_10_1_exactly_a_majority_and_one_less(self):
        for journals in range(1, 8):
            needed = journals // 2 + 1
            self.check([disk_of(3, 4) for _ in range(needed)], journals, value_of(4))
            for count in range(needed):
                disks = [disk_of(3, 4) for _ in range(count)]
                with self.assertRaises(TooFew):
                    recover(disks, journals=journals)

    def test_10_1_unlike_epochs_and_lengths(self):
        rows = [(2, 3, "a"), (2, 5, "b"), (3, 1, "c"), (3, 4, "d"), (0, 0, "e")]
        for chosen in itertools.permutations(rows, 3):
            best = max(chosen, key=lambda row: row[:2])
            wanted = value_of(best[1], mark=best[2]) if best[0] else NEW
            self.check([disk_of(epoch, length, mark=mark) for epoch, length, mark in chosen], 5, wanted)

    def test_10_1_the_length_counts_and_not_the_count_of_records(self):
        disks = [disk_of(3, 5, mark="a"), disk_of(3, 7, base=7, mark="b"), disk_of(3, 6, base=1, mark="c")]
        for order in itertools.permutations(disks):
            self.check(list(order), 3, value_of(7, 7, "b"))

    def test_10_1_ties(self):
        rows = [(3, 4, "a"), (3, 4, "b"), (3, 4, "c")]
        for order in itertools.permutations(rows):
            disks = [disk_of(epoch, length, mark=mark) for epoch, length, mark in order]
            self.check(disks, 3, value_of(4, mark=order[0][2]))
            self.check([disk_of(2, 9, mark="low")] + disks, 5, value_of(4, mark=order[0][2]))

    def test_10_1_the_promise_does_not_count(self):
        self.check([disk_of(2, 3, mark="a", promise=9), disk_of(3, 1, mark="b")], 3, value_of(1, mark="b"))
        self.check([disk_of(0, 0, promise=9), disk_of(0, 0)], 2, NEW)

    def test_10_1_what_is_pending_is_lost(self):
        disk = disk_of(3, 2, mark="a")
        whole = disk_of(3, 4, mark="b")
        # The blocks of a greater log that was not synced.
        for at, block in disk_of(5, 9, mark="pending").stored():
            disk.write(at, block)
        self.assertGreater(disk.pending, 0)
        self.check([disk, whole], 3, value_of(4, mark="b"))
        self.check([disk], 1, value_of(2, mark="a"))
        for fates in range(3):
            disk.arm(fates)
            self.check([disk], 1, value_of(2, mark="a"))

    def test_10_1_pending_blanks(self):
        disk = disk_of(3, 2, mark="a")
        for at, _ in disk.stored():
            disk.write(at, ())
        self.check([disk], 1, value_of(2, mark="a"))

    def test_10_1_armed_disks(self):
        for fates, after in itertools.product((0, 1, 2, 3 ** 8 - 1), (0, 1, 2)):
            disks = [disk_of(3, 2, mark="a"), self.left_by_a_loss()]
            for disk in disks:
                disk.arm(fates, after=after)
            self.check(disks, 3, value_of(3, mark="l"))
            self.assertEqual([disk.armed for disk in disks], [True, True])

    def left_by_a_loss(self):
        """A disk that is to be mended."""
        disk = disk_of(3, 3, mark="l")
        journal = Journal(0, disk)
        disk.arm(2 + 3 * 2 + 9)
        with self.assertRaises(PowerLoss):
            journal.handle(("edit", 3, 4, tuple(record(number, "lost") for number in (4, 5, 6))))
        return disk

    def test_10_1_disks_that_are_to_be_mended_stay_as_they_are(self):
        disk = self.left_by_a_loss()
        stored = disk.stored()
        self.assertIn(None, [block for _, block in stored])
        self.check([disk], 1, value_of(3, mark="l"))
        self.assertEqual(disk.stored(), stored)

    def test_10_1_the_journals_go_on_unchanged(self):
        disk = disk_of(3, 2)
        journal = Journal(0, disk)
        recover([disk, Disk()], journals=3)
        self.assertEqual(journal.handle(("edit", 3, 3, (record(3, "r"),))), ("synced", 3, 3))
        self.check([disk, Disk()], 3, value_of(3))

    def test_0_4_the_list_is_not_changed(self):
        disks = [disk_of(1, 1, mark="a"), disk_of(2, 1, mark="b")]
        passed = list(disks)
        recover(passed, journals=2)
        self.assertTrue(len(passed) == 2 and passed[0] is disks[0] and passed[1] is disks[1])

    def test_10_1_each_majority_of_a_hall(self):
        for journals in range(1, 6):
            hall = led([("create", "/a"), ("append", "/a", "x"), ("append", "/a", "y")], journals=journals)
            wanted = hall.running(("manager", 0)).log.value()
            for count in range(journals // 2 + 1, journals + 1):
                for numbers in itertools.permutations(range(journals), count):
                    disks = [hall.disk(("journal", number)) for number in numbers]
                    self.assertEqual(recover(disks, journals=journals).value(), wanted)


if __name__ == "__main__":
    unittest.main()

import random
import unittest

from appendhall.disk import Disk
from appendhall.errors import PowerLoss
from appendhall.journal import Journal
from appendhall.log import Log
from appendhall.space import Space
from appendhall.tape import Tape
from tests.model import ModelJournal
from tests.samples import MOST, SpyDisk, nested

NEW_IMAGE = Space().to_image()


def record_of(number, mark="r"):
    return (number % 3, number, ("append", "/a", f"{mark}{number}"))


def records_of(first, count, mark="r"):
    return tuple(record_of(number, mark) for number in range(first, first + count))


def log_value(base, count, image="image"):
    return (base, image, records_of(base + 1, count))


def state(journal):
    return journal.promise, journal.epoch, journal.log.value()


def after_bodies(bodies, disk=None):
    journal = Journal(3, disk if disk is not None else Disk())
    for body in bodies:
        journal.handle(body)
    return journal


def spied(disk):
    """A SpyDisk on which the same is stored as on another disk, torn blocks included."""
    other = SpyDisk()
    for at, block in disk.stored():
        if block is not None:
            other.write(at, block)
    other.sync()
    for at, block in disk.stored():
        if block is None:
            other.write(at, ("torn",))
    other.lose_power(3 ** other.pending - 1)
    other.done.clear()
    return other


# Rows of bodies that lead to different states.
STATES = {
    "new": [],
    "promised": [("promise", 4)],
    "synced": [("sync", 4, log_value(2, 3))],
    "synced and promised": [("sync", 4, log_value(2, 3)), ("promise", 7)],
    "without records": [("sync", 4, log_value(5, 0))],
    "edited": [("promise", 2), ("sync", 4, log_value(0, 1)), ("edit", 4, 2, records_of(2, 2))],
    "purged": [("sync", 4, log_value(0, 4)), ("purge", 4, 3, "later")],
    "purged beyond": [("sync", 4, log_value(0, 2)), ("purge", 4, 9, "later"), ("edit", 4, 10, records_of(10, 1))],
}


def all_bodies():
    bodies = []
    for epoch in (0, 1, 3, 4, 5, 6, 7, 8, MOST):
        bodies.append(("promise", epoch))
        bodies += [("sync", epoch, log_value(1, 2, "other")), ("sync", epoch, log_value(0, 0))]
        bodies += [("ping", epoch, token) for token in (0, 1, MOST)]
        for first in (1, 2, 3, 4, 5, 6, 7, 10, 11, 12):
            bodies += [("edit", epoch, first, records_of(first, count, "e")) for count in (0, 1, 2, 5)]
        bodies += [("purge", epoch, number, "purged") for number in (0, 1, 2, 3, 4, 5, 6, 9, 10, 11, 100)]
    return bodies


class JournalTest(unittest.TestCase):
    def check(self, journal, body, answer, wanted):
        """A body, its answer, and the promise, the epoch and the log behind it."""
        with self.subTest(body=body):
            found = journal.handle(body)
            self.assertEqual(found, answer)
            self.assertIs(type(found), tuple)
            self.assertEqual(state(journal), wanted)


class NewJournalTest(JournalTest):
    def test_the_example(self):
        journal = Journal(0, Disk())
        self.assertEqual(journal.handle(("sync", 4, (0, "", ((0, 1, ("seal", "/a")),)))), ("synced", 4, 1))
        edit = ("edit", 4, 1, ((0, 1, ("seal", "/a")), (1, 1, ("seal", "/b"))))
        self.assertEqual(journal.handle(edit), ("synced", 4, 2))
        value = (0, "", ((0, 1, ("seal", "/a")), (1, 1, ("seal", "/b"))))
        self.assertEqual(journal.handle(("promise", 6)), ("promised", 6, 4, value))
        self.assertEqual(journal.handle(("edit", 4, 3, ((2, 1, ("seal", "/c")),))), ("refused", 4, 6))
        self.assertEqual(journal.handle(("edit", 6, 3, ((2, 1, ("seal", "/c")),))), ("refused", 6, 6))

    def test_5_1_on_an_empty_disk(self):
        for number in (0, 1, 6, MOST):
            disk = SpyDisk()
            journal = Journal(number, disk)
            self.assertEqual((journal.number, journal.promise, journal.epoch), (number, 0, 0))
            self.assertIs(type(journal.log), Log)
            self.assertEqual(journal.log.value(), (0, NEW_IMAGE, ()))
            self.assertEqual(disk.done, [])

    def test_0_4_two_journals_have_no_effect_on_each_other(self):
        one = Journal(0, Disk())
        other = Journal(0, Disk())
        for body in STATES["edited"]:
            one.handle(body)
        self.assertEqual(state(other), (0, 0, (0, NEW_IMAGE, ())))

    def test_3_4_a_log_that_was_asked_for_does_not_change(self):
        journal = after_bodies(STATES["synced"])
        log = journal.log
        value = log.value()
        journal.handle(("edit", 4, 6, records_of(6, 2)))
        journal.handle(("purge", 4, 4, "later"))
        self.assertEqual(log.value(), value)
        self.assertEqual(journal.log.value(), (4, "later", records_of(5, 3)))


class BodiesTest(JournalTest):
    def test_5_3_below_the_promise(self):
        for name in ("promised", "synced", "synced and promised"):
            journal = after_bodies(STATES[name])
            before = state(journal)
            promise = before[0]
            for epoch in range(promise):
                for body in (("promise", epoch), ("sync", epoch, log_value(0, 9)), ("edit", epoch, 6, records_of(6, 1)),
                             ("purge", epoch, 4, "later"), ("ping", epoch, 5)):
                    self.check(journal, body, ("refused", epoch, promise), before)

    def test_5_4_promises(self):
        journal = Journal(0, Disk())
        new = (0, NEW_IMAGE, ())
        self.check(journal, ("promise", 0), ("refused", 0, 0), (0, 0, new))
        self.check(journal, ("promise", 1), ("promised", 1, 0, new), (1, 0, new))
        self.check(journal, ("promise", 1), ("promised", 1, 0, new), (1, 0, new))
        self.check(journal, ("promise", 5), ("promised", 5, 0, new), (5, 0, new))
        self.check(journal, ("promise", 3), ("refused", 3, 5), (5, 0, new))
        self.check(journal, ("promise", 0), ("refused", 0, 5), (5, 0, new))
        self.check(journal, ("promise", MOST), ("promised", MOST, 0, new), (MOST, 0, new))

    def test_5_4_a_promise_for_the_epoch_of_the_journal(self):
        journal = after_bodies(STATES["synced"])
        value = log_value(2, 3)
        self.check(journal, ("promise", 4), ("refused", 4, 4), (4, 4, value))
        self.check(journal, ("promise", 6), ("promised", 6, 4, value), (6, 4, value))
        self.check(journal, ("promise", 4), ("refused", 4, 6), (6, 4, value))
        self.check(journal, ("promise", 6), ("promised", 6, 4, value), (6, 4, value))
        self.check(journal, ("sync", 6, value), ("synced", 6, 5), (6, 6, value))
        self.check(journal, ("promise", 6), ("refused", 6, 6), (6, 6, value))

    def test_5_5_a_sync_above_the_epoch(self):
        journal = Journal(0, Disk())
        self.check(journal, ("sync", 1, log_value(0, 2)), ("synced", 1, 2), (1, 1, log_value(0, 2)))
        self.check(journal, ("sync", 3, log_value(7, 0)), ("synced", 3, 7), (3, 3, log_value(7, 0)))
        self.check(journal, ("sync", MOST, log_value(1, 1)), ("synced", MOST, 2), (MOST, MOST, log_value(1, 1)))

    def test_5_5_a_sync_at_the_promise_and_above(self):
        for epoch in (7, 8, 100):
            journal = after_bodies(STATES["synced and promised"])
            self.check(journal, ("sync", epoch, log_value(0, 1, "new")), ("synced", epoch, 1),
                       (epoch, epoch, log_value(0, 1, "new")))

    def test_5_5_a_sync_between_the_epoch_and_the_promise(self):
        journal = after_bodies(STATES["synced and promised"])
        for epoch in (5, 6):
            self.check(journal, ("sync", epoch, log_value(0, 1)), ("refused", epoch, 7), (7, 4, log_value(2, 3)))

    def test_5_5_a_sync_with_the_epoch_of_the_journal(self):
        journal = after_bodies(STATES["synced"])
        for value in (log_value(0, 1), log_value(9, 9), log_value(2, 3, "other"), log_value(2, 3)):
            self.check(journal, ("sync", 4, value), ("synced", 4, 5), (4, 4, log_value(2, 3)))
        journal = Journal(0, Disk())
        self.check(journal, ("sync", 0, log_value(9, 9)), ("synced", 0, 0), (0, 0, (0, NEW_IMAGE, ())))

    def test_5_6_edits_of_another_epoch(self):
        journal = after_bodies(STATES["synced"])
        before = state(journal)
        for epoch, promise in ((0, 4), (3, 4), (5, 4), (8, 4), (MOST, 4)):
            for first in (1, 3, 6, 7):
                for count in (0, 1, 9):
                    body = ("edit", epoch, first, records_of(first, count))
                    self.check(journal, body, ("refused", epoch, promise), before)
        journal = after_bodies(STATES["synced and promised"])
        before = state(journal)
        for epoch in (4, 5, 7, 8):
            self.check(journal, ("edit", epoch, 6, records_of(6, 1)), ("refused", epoch, 7), before)

    def test_5_6_edits(self):
        # The log has the records 3 to 5 behind the base 2.
        old = records_of(3, 3)
        rows = [
            (1, 0, 0), (1, 1, 0), (1, 2, 0), (1, 5, 0), (1, 6, 1), (1, 8, 3), (2, 3, 0), (2, 5, 1), (3, 0, 0),
            (3, 3, 0), (3, 4, 1), (4, 2, 0), (4, 5, 3), (5, 1, 0), (5, 2, 1), (6, 0, 0), (6, 1, 1), (6, 4, 4),
            (7, 0, 0), (7, 1, 0), (8, 3, 0), (100, 5, 0), (MOST, 1, 0), (MOST, 0, 0),
        ]
        for first, count, added in rows:
            journal = after_bodies(STATES["synced"])
            # The records that are known already are not compared.
            body = ("edit", 4, first, records_of(first, count, "e"))
            value = (2, "image", old + records_of(6, added, "e"))
            self.check(journal, body, ("synced", 4, 5 + added), (4, 4, value))

    def test_5_6_edits_of_epoch_0(self):
        journal = Journal(0, Disk())
        value = (0, NEW_IMAGE, records_of(1, 2))
        self.check(journal, ("edit", 0, 1, records_of(1, 2)), ("synced", 0, 2), (0, 0, value))
        self.check(journal, ("edit", 0, 4, records_of(4, 1)), ("synced", 0, 2), (0, 0, value))
        self.check(journal, ("promise", 2), ("promised", 2, 0, value), (2, 0, value))
        self.check(journal, ("edit", 0, 3, records_of(3, 1)), ("refused", 0, 2), (2, 0, value))

    def test_5_7_purges_of_another_epoch(self):
        journal = after_bodies(STATES["synced"])
        before = state(journal)
        for epoch in (0, 3, 5, 8, MOST):
            for number in (0, 2, 3, 5, 9):
                self.check(journal, ("purge", epoch, number, "later"), ("refused", epoch, 4), before)
        journal = after_bodies(STATES["synced and promised"])
        before = state(journal)
        for epoch in (4, 5, 7, 8):
            self.check(journal, ("purge", epoch, 4, "later"), ("refused", epoch, 7), before)

    def test_5_7_purges(self):
        rows = [
            (0, 5, log_value(2, 3)), (1, 5, log_value(2, 3)), (2, 5, log_value(2, 3)),
            (3, 5, (3, "later", records_of(4, 2))), (4, 5, (4, "later", records_of(5, 1))), (5, 5, (5, "later", ())),
            (6, 6, (6, "later", ())), (9, 9, (9, "later", ())), (MOST, MOST, (MOST, "later", ())),
        ]
        for number, length, value in rows:
            journal = after_bodies(STATES["synced"])
            self.check(journal, ("purge", 4, number, "later"), ("synced", 4, length), (4, 4, value))

    def test_5_7_purges_of_epoch_0(self):
        disk = Disk()
        journal = Journal(0, disk)
        journal.handle(("edit", 0, 1, records_of(1, 3)))
        value = (2, "later", records_of(3, 1))
        self.check(journal, ("purge", 0, 2, "later"), ("synced", 0, 3), (0, 0, value))
        self.assertEqual(state(Journal(0, disk)), (0, 0, value))
        self.check(journal, ("purge", 0, 2, "again"), ("synced", 0, 3), (0, 0, value))

    def test_5_8_pings(self):
        journal = after_bodies(STATES["synced and promised"])
        before = state(journal)
        for token in (0, 1, 17, MOST):
            for epoch in (7, 8, MOST):
                self.check(journal, ("ping", epoch, token), ("ponged", epoch, token), before)
            for epoch in (0, 4, 6):
                self.check(journal, ("ping", epoch, token), ("refused", epoch, 7), before)
        self.check(Journal(0, Disk()), ("ping", 0, 9), ("ponged", 0, 9), (0, 0, (0, NEW_IMAGE, ())))


class DiskTest(JournalTest):
    """What point 5.9 says of the disk, for each body in each state."""

    def test_5_9_every_body_in_every_state(self):
        for name, bodies in STATES.items():
            disk = after_on_disk(bodies)
            for body in all_bodies():
                model = ModelJournal(NEW_IMAGE)
                for earlier in bodies:
                    model.handle(earlier)
                with self.subTest(state=name, body=body):
                    self.check_body(spied(disk), model, body)

    def check_body(self, disk, model, body):
        journal = Journal(0, disk)
        self.assertEqual(disk.done, [])
        before = model.state()
        self.assertEqual(state(journal), before)
        self.assertEqual(journal.handle(body), model.handle(body))
        self.assertEqual(state(journal), model.state())
        self.check_written(disk, model.state() != before)
        self.check_again(disk, model)

    def check_written(self, disk, changed):
        """No write and no sync, or one appended and synced entry, or one rewrite."""
        self.assertEqual(disk.pending, 0)
        if not changed:
            self.assertEqual(disk.done, [])
            return
        marks = "".join("s" if done == "sync" else "w" for done in disk.done)
        _, last = disk.done[-2]
        if last[0] == "head":
            self.assertRegex(marks, "^w+sws$")
        else:
            self.assertRegex(marks, "^w+s$")
            self.assertEqual({block[:2] for _, block in disk.done[:-1]}, {last[:2]})

    def check_again(self, disk, model):
        """A new journal on the disk has the same, and writes nothing."""
        other = spied(disk)
        again = Journal(5, other)
        self.assertEqual(state(again), model.state())
        self.assertEqual((again.number, other.done), (5, []))

    def test_5_9_long_rows_of_bodies(self):
        for seed in range(30):
            rng = random.Random(seed)
            disk = SpyDisk()
            journal = Journal(0, disk)
            model = ModelJournal(NEW_IMAGE)
            for _ in range(60):
                body = self.random_body(rng, model)
                before = model.state()
                self.assertEqual(journal.handle(body), model.handle(body))
                self.assertEqual(state(journal), model.state())
                self.check_written(disk, model.state() != before)
                self.check_again(disk, model)
                if rng.random() < 0.2:
                    journal = Journal(0, disk)
                disk.done.clear()

    def random_body(self, rng, model):
        epoch = max(0, rng.choice((model.epoch, model.epoch, model.promise)) + rng.choice((0, 0, 0, 0, 0, 0, -1, 1)))
        word = rng.choice(("promise", "sync", "edit", "edit", "edit", "purge", "ping"))
        near = max(1, model.length + rng.choice((-2, -1, 0, 1, 1, 1, 1, 2)))
        if word == "promise":
            return (word, epoch)
        if word == "sync":
            return (word, epoch, log_value(rng.randrange(4), rng.randrange(4), ("image", epoch)))
        if word == "edit":
            return (word, epoch, near, records_of(near, rng.randrange(4), f"e{epoch}."))
        if word == "purge":
            return (word, epoch, max(0, near - rng.randrange(4)), ("purged", near))
        return (word, epoch, near)

    def test_5_9_the_disk_comes_before_the_fields(self):
        for name, bodies in STATES.items():
            stored = after_on_disk(bodies)
            for body in all_bodies():
                if body[1] < 4 or body[0] == "ping":
                    continue
                disk = WatchedDisk(stored)
                journal = Journal(0, disk)
                disk.journal = journal
                before = state(journal)
                journal.handle(body)
                disk.journal = None
                with self.subTest(state=name, body=body):
                    self.assertEqual(disk.seen, [before] * len(disk.seen))
                    self.assertEqual(disk.seen == [], state(journal) == before)

    def test_5_9_images_nested_six_deep_and_large_numbers(self):
        disk = Disk()
        journal = Journal(0, disk)
        deep = nested(6, "core")
        wide = (nested(5, MOST), "x" * 200, -MOST, ())
        large = (MOST, MOST, ("append", "/" + "x" * 12, "y" * 200))
        value = (MOST - 5, deep, (large, large))
        self.check(journal, ("sync", MOST - 1, value), ("synced", MOST - 1, MOST - 3), (MOST - 1, MOST - 1, value))
        self.check_again_with(disk, journal)
        more = (MOST - 5, deep, (large,) * 3)
        self.check(journal, ("edit", MOST - 1, MOST - 3, (large, large)), ("synced", MOST - 1, MOST - 2),
                   (MOST - 1, MOST - 1, more))
        self.check_again_with(disk, journal)
        cut = (MOST - 3, wide, (large,))
        self.check(journal, ("purge", MOST - 1, MOST - 3, wide), ("synced", MOST - 1, MOST - 2),
                   (MOST - 1, MOST - 1, cut))
        self.check_again_with(disk, journal)
        self.check(journal, ("promise", MOST), ("promised", MOST, MOST - 1, cut), (MOST, MOST - 1, cut))
        self.check_again_with(disk, journal)

    def check_again_with(self, disk, journal):
        other = spied(disk)
        self.assertEqual(state(Journal(0, other)), state(journal))
        self.assertEqual(other.done, [])

    def test_5_9_the_image_of_a_large_space(self):
        space = Space()
        for number in range(1, 64):
            space.apply((number % 4, (number + 3) // 4, ("create", f"/f{number}")))
        disk = Disk()
        journal = Journal(0, disk)
        journal.handle(("sync", 1, (63, space.to_image(), records_of(64, 20))))
        journal.handle(("purge", 1, 70, space.to_image()))
        self.assertEqual(state(Journal(0, disk)), (1, 1, (70, space.to_image(), records_of(71, 13))))

    def test_2_13_a_disk_that_is_to_be_mended(self):
        journal_disk = after_on_disk(STATES["edited"])
        wanted = state(Journal(0, journal_disk.clone()))
        end = Tape(journal_disk.clone()).end
        journal_disk.write(end + 1, ("left",))
        journal_disk.sync()
        disk = spied(journal_disk)
        self.assertEqual(state(Journal(0, disk)), wanted)
        self.assertEqual(disk.done, [(end + 1, ()), "sync"])


class WatchedDisk(Disk):
    """A disk that keeps how the fields of a journal are at each write and each sync."""

    def __init__(self, other):
        super().__init__()
        self.journal = None
        self.seen = []
        for at, block in other.stored():
            self.write(at, block)
        self.sync()

    def write(self, at, block):
        super().write(at, block)
        self.look()

    def sync(self):
        super().sync()
        self.look()

    def look(self):
        if self.journal is not None:
            self.seen.append(state(self.journal))


def after_on_disk(bodies):
    disk = Disk()
    after_bodies(bodies, disk)
    return disk


class PowerLossTest(unittest.TestCase):
    """What point 5.10 says, with each fate of each pending block."""

    def bodies_for(self, name):
        promise, epoch, value = state(after_bodies(STATES[name]))
        base = value[0]
        length = base + len(value[2])
        bodies = [("promise", promise + 1), ("sync", promise + 2, (3, "new", records_of(4, 1, "n")))]
        if promise == epoch:
            bodies.append(("edit", epoch, length + 1, records_of(length + 1, 2, "n")))
            bodies.append(("edit", epoch, max(1, length), records_of(max(1, length), 3, "n")))
            bodies += [("purge", epoch, number, "cut") for number in (base + 1, length + 2)]
        return bodies

    def test_5_10_each_sync_of_each_body(self):
        for name in STATES:
            stored = after_on_disk(STATES[name])
            before = state(Journal(0, stored.clone()))
            for body in self.bodies_for(name):
                disk = stored.clone()
                journal = Journal(0, disk)
                journal.handle(body)
                with self.subTest(state=name, body=body):
                    self.assertNotEqual(state(journal), before)
                    self.check_losses(stored, body, before, state(journal))

    def check_losses(self, stored, body, before, behind):
        """Lose power in each of the syncs, until the body is handled without a loss."""
        found = set()
        after = 0
        while True:
            count = self.pending_at(stored, body, after)
            if count is None:
                break
            for fates in range(3 ** count):
                disk = stored.clone()
                journal = Journal(0, disk)
                disk.arm(fates, after=after)
                with self.assertRaises(PowerLoss):
                    journal.handle(body)
                found.add(self.check_reopened(disk, before, behind))
            after += 1
        self.assertGreaterEqual(after, 1)
        self.assertEqual(found, {"before", "behind"})

    def pending_at(self, stored, body, after):
        """How many writes are pending when the sync behind so many other ones begins, None if there is none."""
        disk = CountingDisk()
        for at, block in stored.stored():
            disk.write(at, block)
        disk.sync()
        disk.counts.clear()
        Journal(0, disk).handle(body)
        return disk.counts[after] if after < len(disk.counts) else None

    def check_reopened(self, disk, before, behind):
        self.assertFalse(disk.armed)
        journal = Journal(0, disk)
        self.assertIn(state(journal), (before, behind))
        again = spied(disk)
        self.assertEqual(state(Journal(0, again)), state(journal))
        self.assertEqual(again.done, [])
        return "before" if state(journal) == before else "behind"

    def test_5_10_the_same_body_once_more(self):
        for name in STATES:
            for body in self.bodies_for(name):
                for after in (0, 1):
                    for fates in (0, 1, 2, 7, 13, 3 ** 8 - 1, (3 ** 8 - 1) // 2):
                        disk = after_on_disk(STATES[name])
                        journal = Journal(0, disk)
                        disk.arm(fates, after=after)
                        try:
                            journal.handle(body)
                        except PowerLoss:
                            journal = Journal(0, disk)
                        disk.disarm()
                        journal.handle(body)
                        wanted = after_bodies(STATES[name] + [body])
                        self.assertEqual(state(journal), state(wanted))
                        self.assertEqual(state(Journal(0, disk)), state(wanted))

    def test_2_13_power_losses_while_a_journal_is_made(self):
        for name in STATES:
            disk = after_on_disk(STATES[name])
            before = state(Journal(0, disk.clone()))
            end = Tape(disk.clone()).end
            disk.write(end, ("left",))
            disk.write(end + 2, ("left",))
            disk.sync()
            for fates in range(9):
                other = disk.clone()
                other.arm(fates)
                with self.assertRaises(PowerLoss):
                    Journal(0, other)
                self.assertEqual(state(Journal(0, other)), before)

    def test_5_10_many_losses_one_behind_another(self):
        for seed in range(40):
            rng = random.Random(seed)
            disk = Disk()
            journal = Journal(0, disk)
            for step in range(1, 30):
                before = state(journal)
                body = self.next_body(rng, journal, step)
                disk.arm(rng.randrange(3 ** 8), after=rng.choice((0, 0, 1, 2)))
                try:
                    journal.handle(body)
                except PowerLoss:
                    journal = Journal(0, disk)
                    wanted = self.handled(before, body)
                    self.assertIn(state(journal), (before, wanted))
                    continue
                disk.disarm()
                self.assertEqual(state(journal), self.handled(before, body))

    def next_body(self, rng, journal, step):
        word = rng.choice(("promise", "sync", "edit", "edit", "purge"))
        length = journal.log.length
        if word == "promise":
            return (word, journal.promise + rng.randrange(2))
        if word == "sync":
            return (word, journal.promise, (step, "image", records_of(step + 1, rng.randrange(3))))
        if word == "edit":
            return (word, journal.epoch, length + 1, records_of(length + 1, rng.randrange(1, 3), f"s{step}."))
        return (word, journal.epoch, length - rng.randrange(min(length, 2) + 1), ("purged", step))

    def handled(self, before, body):
        model = ModelJournal(NEW_IMAGE)
        model.promise, model.epoch, (model.base, model.image, records) = before
        model.records = {model.base + 1 + at: record for at, record in enumerate(records)}
        model.handle(body)
        return model.state()


class CountingDisk(Disk):
    """A disk that keeps how many writes were pending at each sync."""

    def __init__(self):
        super().__init__()
        self.counts = []

    def sync(self):
        self.counts.append(self.pending)
        super().sync()


if __name__ == "__main__":
    unittest.main()

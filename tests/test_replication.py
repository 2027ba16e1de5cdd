import itertools
import unittest

from appendhall.disk import Disk
from appendhall.errors import OutOfRange
from appendhall.journal import Journal
from appendhall.log import Log
from appendhall.replication import Replication
from tests.samples import FAR, MOST


def record_of(number):
    return (1, number, ("append", "/a", str(number)))


def log_of(base, length, image="image"):
    return Log(base, image, tuple(record_of(number) for number in range(base + 1, length + 1)))


def view(replication):
    journals = range(replication.journals)
    told = [replication.matched(journal) for journal in journals]
    missing = [replication.missing(journal) for journal in journals]
    state = (replication.synced(), replication.commit_point(), replication.sync_body())
    return replication.epoch, replication.log.value(), told, missing, state


class LengthsTest(unittest.TestCase):
    def test_nothing_is_told_at_first(self):
        for journals in range(1, 8):
            log = log_of(2, 5)
            replication = Replication(4, log, journals)
            self.assertEqual((replication.epoch, replication.journals), (4, journals))
            self.assertIs(type(replication.log), Log)
            self.assertEqual(replication.log.value(), log.value())
            self.assertEqual([replication.matched(journal) for journal in range(journals)], [None] * journals)
            self.assertIs(replication.synced(), False)
            self.assertEqual(replication.commit_point(), 0)

    def test_6_7_the_greatest_length_counts(self):
        replication = Replication(4, log_of(0, 9), 3)
        for length, greatest in ((3, 3), (3, 3), (2, 3), (0, 3), (5, 5), (4, 5), (5, 5), (9, 9), (0, 9)):
            self.assertIsNone(replication.note(1, length))
            self.assertEqual([replication.matched(journal) for journal in range(3)], [None, greatest, None])

    def test_6_7_the_length_0_is_a_length(self):
        replication = Replication(4, log_of(0, 9), 1)
        replication.note(0, 0)
        self.assertEqual(replication.matched(0), 0)
        self.assertIs(replication.synced(), True)
        self.assertEqual(replication.commit_point(), 0)

    def test_6_7_synced_by_a_majority(self):
        for journals in range(1, 8):
            for order in (list(range(journals)), list(range(journals))[::-1]):
                replication = Replication(1, log_of(0, 2), journals)
                for count, journal in enumerate(order, 1):
                    replication.note(journal, count % 3)
                    replication.note(journal, 0)
                    self.assertIs(replication.synced(), 2 * count > journals)

    def test_3_9_the_commit_point(self):
        for journals in range(1, 5):
            for told in itertools.product((None, 0, 3, 4, 9), repeat=journals):
                replication = Replication(1, log_of(0, 9), journals)
                for journal, length in enumerate(told):
                    if length is not None:
                        replication.note(journal, length)
                lengths = [length or 0 for length in told]
                wanted = max(n for n in range(10) if 2 * len([m for m in lengths if m >= n]) > journals)
                with self.subTest(told=told):
                    self.assertEqual(replication.commit_point(), wanted)

    def test_3_9_lengths_in_any_order(self):
        notes = [(0, 2), (0, 7), (1, 5), (1, 1), (2, 4), (0, 7)]
        for order in itertools.permutations(notes):
            replication = Replication(1, log_of(0, 9), 3)
            for journal, length in order:
                replication.note(journal, length)
            self.assertEqual([replication.matched(journal) for journal in range(3)], [7, 5, 4])
            self.assertEqual(replication.commit_point(), 5)

    def test_3_9_step_by_step(self):
        replication = Replication(1, log_of(0, 9), 4)
        rows = [(0, 9, False, 0), (1, 6, False, 0), (1, 7, False, 0), (2, 3, True, 3), (3, 5, True, 5), (2, 8, True, 7),
                (0, 1, True, 7), (3, 9, True, 8)]
        for journal, length, synced, point in rows:
            replication.note(journal, length)
            self.assertEqual((replication.synced(), replication.commit_point()), (synced, point))

    def test_0_4_two_objects_have_no_effect_on_each_other(self):
        log = log_of(0, 2)
        one = Replication(1, log, 1)
        other = Replication(1, log, 1)
        before = view(other)
        one.note(0, 2)
        one.put(record_of(3))
        one.cut(1, "cut")
        self.assertEqual(view(other), before)
        self.assertEqual(log.value(), log_of(0, 2).value())


class PutAndCutTest(unittest.TestCase):
    def test_6_12_put(self):
        for base, length in ((0, 0), (0, 3), (4, 4), (4, 6), (MOST - 10, MOST - 5)):
            replication = Replication(7, log_of(base, length), 3)
            log = replication.log
            for number in range(length + 1, length + 4):
                body = replication.put(record_of(number))
                self.assertEqual(body, ("edit", 7, number, (record_of(number),)))
                self.assertEqual(replication.log.value(), log_of(base, number).value())
            self.assertEqual(log.value(), log_of(base, length).value())

    def test_6_14_cut(self):
        for number in range(4, 12):
            replication = Replication(7, log_of(4, 8), 3)
            self.assertEqual(replication.cut(number, ("later",)), ("purge", 7, number, ("later",)))
            self.assertEqual(replication.log.value(), log_of(4, 8).cut(number, ("later",)).value())
            self.assertEqual(replication.log.length, max(number, 8))

    def test_0_6_a_cut_below_the_base_changes_nothing(self):
        replication = Replication(7, log_of(4, 8), 2)
        replication.note(1, 6)
        before = view(replication)
        for number in (3, 2, 0, -1, -MOST, -FAR):
            with self.assertRaises(OutOfRange):
                replication.cut(number, "later")
            self.assertEqual(view(replication), before)

    def test_a_cut_keeps_the_lengths(self):
        replication = Replication(7, log_of(0, 8), 3)
        replication.note(0, 8)
        replication.note(2, 3)
        replication.cut(5, "later")
        replication.put(record_of(9))
        self.assertEqual([replication.matched(journal) for journal in range(3)], [8, None, 3])
        self.assertEqual((replication.synced(), replication.commit_point()), (True, 3))
        self.assertEqual(replication.log.value(), log_of(5, 9, "later").value())


class BodiesTest(unittest.TestCase):
    def test_6_15_sync_body(self):
        replication = Replication(6, log_of(2, 4), 3)
        self.assertEqual(replication.sync_body(), ("sync", 6, log_of(2, 4).value()))
        replication.put(record_of(5))
        self.assertEqual(replication.sync_body(), ("sync", 6, log_of(2, 5).value()))
        replication.cut(5, "later")
        self.assertEqual(replication.sync_body(), ("sync", 6, (5, "later", ())))

    def test_6_15_a_journal_that_has_told_nothing(self):
        for base, length in ((0, 0), (0, 3), (4, 4), (4, 8)):
            replication = Replication(6, log_of(base, length), 3)
            replication.note(1, length)
            for journal in (0, 2):
                self.assertEqual(replication.missing(journal), ("sync", 6, log_of(base, length).value()))
            replication.put(record_of(length + 1))
            self.assertEqual(replication.missing(0), ("sync", 6, log_of(base, length + 1).value()))

    def test_6_15_a_length_below_the_base(self):
        for told in range(0, 4):
            replication = Replication(6, log_of(4, 8), 3)
            replication.note(2, told)
            self.assertEqual(replication.missing(2), ("purge", 6, 4, "image"))
        replication.cut(7, ("cut",))
        for told in range(4, 7):
            replication.note(2, told)
            self.assertEqual(replication.missing(2), ("purge", 6, 7, ("cut",)))

    def test_6_15_a_length_between_the_base_and_the_length(self):
        for told in range(4, 8):
            replication = Replication(6, log_of(4, 8), 3)
            replication.note(2, told)
            records = tuple(record_of(number) for number in range(told + 1, 9))
            self.assertEqual(replication.missing(2), ("edit", 6, told + 1, records))

    def test_6_15_the_length_itself(self):
        for base, length in ((0, 0), (4, 4), (4, 8)):
            replication = Replication(6, log_of(base, length), 3)
            replication.note(2, length)
            self.assertIsNone(replication.missing(2))
            replication.put(record_of(length + 1))
            self.assertEqual(replication.missing(2), ("edit", 6, length + 1, (record_of(length + 1),)))

    def test_6_15_the_greatest_length_counts(self):
        replication = Replication(6, log_of(4, 8), 3)
        replication.note(0, 7)
        replication.note(0, 2)
        self.assertEqual(replication.missing(0), ("edit", 6, 8, (record_of(8),)))

    def test_asking_changes_nothing(self):
        replication = Replication(6, log_of(4, 8), 4)
        replication.note(1, 2)
        replication.note(2, 6)
        replication.note(3, 8)
        before = view(replication)
        self.assertEqual(view(replication), before)
        self.assertEqual([row and row[0] for row in before[3]], ["sync", "purge", "edit", None])

    def test_6_15_journals_that_get_what_they_are_missing_get_the_log(self):
        replication = Replication(6, log_of(2, 4), 3)
        journals = [Journal(number, Disk()) for number in range(3)]
        for step in range(12):
            if step % 3 == 0:
                replication.put(record_of(replication.log.length + 1))
            if step == 6:
                replication.cut(5, "later")
            number = step % 2
            self.give_missing(replication, journals[number])
        for journal in journals:
            for _ in range(3):
                self.give_missing(replication, journal)
            self.assertIsNone(replication.missing(journal.number))
            self.assertTrue(journal.log.agrees(replication.log))
            self.assertEqual(journal.log.length, replication.log.length)
        self.assertEqual(replication.commit_point(), replication.log.length)

    def give_missing(self, replication, journal):
        body = replication.missing(journal.number)
        if body is not None:
            word, epoch, length = journal.handle(body)
            self.assertEqual((word, epoch), ("synced", 6))
            replication.note(journal.number, length)


if __name__ == "__main__":
    unittest.main()

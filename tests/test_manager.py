"""Campaigns, elections, lengths and refusals, and what is on the disk of a manager: points 6.1 to 6.10."""

import itertools
import unittest

from appendhall.disk import Disk
from appendhall.errors import PowerLoss
from appendhall.log import Log
from appendhall.manager import Manager
from appendhall.tape import Tape
from tests.managers import NEW, ROLES, commit_all, from_client, from_journal, in_role, log_of, needed, state, to_all
from tests.samples import MOST, SpyDisk

RECORDS = ((0, 1, ("create", "/a")), (1, 1, ("append", "/a", "x")), (0, 2, ("seal", "/b")), (1, 2, ("seal", "/a")))


def journal_bodies(epoch):
    """A body of each form that a journal sends, for an epoch; the refusal tells nothing new."""
    return [
        ("promised", epoch, 0, log_of(RECORDS)),
        ("synced", epoch, 2),
        ("ponged", epoch, 1),
        ("refused", epoch, 0),
    ]


class NewManagerTest(unittest.TestCase):
    def test_the_example(self):
        manager = Manager(1, Disk(), managers=2, journals=1)
        self.assertEqual(manager.campaign(), [(("journal", 0), ("promise", 1))])
        self.assertEqual(manager.handle(("journal", 0), ("refused", 1, 6)), [])
        self.assertEqual((manager.role, manager.campaign()), ("idle", [(("journal", 0), ("promise", 7))]))

    def test_6_2_a_new_manager(self):
        for number, managers, journals in ((0, 1, 1), (1, 2, 3), (3, 4, 7), (2, 3, 2)):
            disk = SpyDisk()
            manager = Manager(number, disk, managers=managers, journals=journals)
            self.assertEqual((manager.number, manager.managers, manager.journals), (number, managers, journals))
            self.assertEqual(state(manager), ("idle", 0, 0, None, 0, []))
            self.assertEqual(disk.done, [])

    def test_0_4_two_managers_have_no_effect_on_each_other(self):
        one, other = in_role("leading"), in_role("idle", number=1)
        before = state(other)
        from_client(one, 0, "request", 1, ("create", "/a"))
        commit_all(one)
        self.assertEqual(state(other), before)

    def test_0_4_the_lists_are_new(self):
        manager = in_role("leading")
        from_client(manager, 0, "read", 1, ("find", "/"))
        for act in (manager.resend, manager.checkpoint, lambda: from_journal(manager, 0, "synced", 9, 0)):
            wanted = act()
            act().append("more")
            self.assertEqual(act(), wanted)


class CampaignTest(unittest.TestCase):
    def test_6_4_the_first_campaign(self):
        for managers in range(1, 5):
            for number in range(managers):
                for journals in range(1, 8):
                    manager = Manager(number, Disk(), managers=managers, journals=journals)
                    epoch = number if number > 0 else managers
                    self.assertEqual(manager.campaign(), to_all(journals, ("promise", epoch)))
                    self.assertEqual((manager.role, manager.epoch, manager.seen), ("asking", epoch, epoch))
                    self.assertEqual((manager.log, manager.commit), (None, 0))

    def test_6_4_the_next_campaigns(self):
        manager = Manager(1, Disk(), managers=3, journals=2)
        for epoch in (1, 4, 7, 10):
            self.assertEqual(manager.campaign(), to_all(2, ("promise", epoch)))
        for promise, epoch in ((11, 13), (14, 16), (17, 19), (18, 22), (100, 103), (102, 106)):
            from_journal(manager, 0, "refused", 0, promise)
            self.assertEqual(manager.campaign(), to_all(2, ("promise", epoch)))
            self.assertEqual((manager.epoch, manager.seen), (epoch, epoch))

    def test_6_4_in_each_role(self):
        for role in ROLES:
            manager = in_role(role, RECORDS, number=1)
            epoch = manager.epoch + 2 if manager.epoch else 1
            self.assertEqual(manager.campaign(), to_all(3, ("promise", epoch)))
            self.assertEqual(state(manager), ("asking", epoch, epoch, None, 0, to_all(3, ("promise", epoch))))

    def test_6_4_forgets_the_promises(self):
        manager = in_role("asking")
        from_journal(manager, 0, "promised", 2, 0, log_of(RECORDS))
        manager.campaign()
        self.assertEqual(from_journal(manager, 1, "promised", 4, 0, log_of(())), [])
        self.assertEqual(manager.role, "asking")
        self.assertEqual(from_journal(manager, 0, "promised", 4, 0, log_of(())), to_all(3, ("sync", 4, log_of(()))))

    def test_6_4_forgets_the_log_the_lengths_and_the_reads(self):
        manager = in_role("leading", RECORDS)
        from_client(manager, 5, "read", 1, ("find", "/"))
        from_client(manager, 5, "request", 1, ("mkdir", "/new"))
        manager.campaign()
        for journal in (0, 1):
            from_journal(manager, journal, "promised", 4, 0, log_of(RECORDS[:2]))
        self.assertEqual(state(manager), ("syncing", 4, 4, log_of(RECORDS[:2]), 0,
                                          to_all(3, ("sync", 4, log_of(RECORDS[:2])))))
        self.assertEqual(from_journal(manager, 0, "synced", 4, 2), [])
        self.assertEqual(manager.role, "syncing")
        from_journal(manager, 1, "synced", 4, 2)
        self.assertEqual((manager.role, manager.commit), ("leading", 2))
        self.assertEqual(from_journal(manager, 0, "ponged", 4, 1) + from_journal(manager, 1, "ponged", 4, 1), [])
        self.assertEqual(from_client(manager, 5, "read", 2, ("find", "/")), to_all(3, ("ping", 4, 1)))
        self.assertEqual(from_client(manager, 5, "request", 1, ("mkdir", "/new")),
                         to_all(3, ("edit", 4, 3, ((5, 1, ("mkdir", "/new")),))))

    def test_6_4_one_entry_and_one_sync(self):
        disk = SpyDisk()
        manager = Manager(1, disk, managers=2, journals=3)
        for epoch in (1, 3, 5):
            disk.done.clear()
            manager.campaign()
            self.assertEqual([type(done) for done in disk.done], [tuple, str])
            self.assertEqual(Tape(disk.clone()).entries()[-1], ("epoch", epoch))
        self.assertEqual(Tape(disk.clone()).entries(), [("epoch", 1), ("epoch", 3), ("epoch", 5)])

    def test_6_2_nothing_else_is_written(self):
        disk = SpyDisk()
        manager = in_role("leading", RECORDS, disk=disk)
        disk.done.clear()
        from_client(manager, 0, "request", 3, ("mkdir", "/new"))
        from_client(manager, 0, "read", 3, ("find", "/"))
        commit_all(manager)
        manager.checkpoint()
        manager.resend()
        for body in journal_bodies(2) + journal_bodies(1) + [("refused", 2, 9)]:
            from_journal(manager, 2, *body)
        self.assertEqual((manager.role, disk.done), ("idle", []))


class DiskTest(unittest.TestCase):
    def test_6_2_a_new_manager_on_the_same_disk(self):
        for role in ROLES:
            disk = Disk()
            manager = in_role(role, RECORDS, number=1, disk=disk, campaigns=3)
            epoch = manager.epoch
            self.assertEqual(epoch, 0 if role == "idle" else 5)
            from_journal(manager, 0, "refused", 0, 50)
            again = Manager(1, disk, managers=2, journals=3)
            self.assertEqual(state(again), ("idle", epoch, epoch, None, 0, []))
            self.assertEqual(again.campaign(), to_all(3, ("promise", epoch + 2 if epoch else 1)))

    def test_6_2_a_new_manager_takes_nothing_of_the_old_epoch(self):
        disk = Disk()
        in_role("leading", RECORDS, disk=disk)
        again = Manager(0, disk, managers=2, journals=3)
        before = state(again)
        for body in journal_bodies(2):
            self.assertEqual(from_journal(again, 0, *body), [])
        self.assertEqual(state(again), before)

    def test_6_2_the_epoch_is_the_greatest_one_on_the_tape(self):
        disk = Disk()
        tape = Tape(disk)
        for epoch in (2, 8, 12):
            tape.append(("epoch", epoch))
        tape.sync()
        manager = Manager(0, disk, managers=2, journals=1)
        self.assertEqual((manager.role, manager.epoch, manager.seen), ("idle", 12, 12))

    def test_6_4_power_losses_in_the_sync_of_a_campaign(self):
        for campaigns, fate in itertools.product((0, 1, 3), (0, 1, 2)):
            disk = Disk()
            manager = Manager(1, disk, managers=2, journals=1)
            for _ in range(campaigns):
                manager.campaign()
            old = manager.epoch
            disk.arm(fate)
            with self.assertRaises(PowerLoss):
                manager.campaign()
            again = Manager(1, disk, managers=2, journals=1)
            epoch = 2 * campaigns + 1 if fate == 1 else old
            self.assertEqual(state(again), ("idle", epoch, epoch, None, 0, []))
            self.assertEqual(again.campaign(), [(("journal", 0), ("promise", epoch + 2 if epoch else 1))])

    def test_2_13_power_losses_in_the_mending_of_the_tape(self):
        for fate in (0, 1, 2):
            disk = Disk()
            manager = Manager(0, disk, managers=1, journals=1)
            manager.campaign()
            disk.arm(2)
            with self.assertRaises(PowerLoss):
                manager.campaign()
            disk.arm(fate)
            with self.assertRaises(PowerLoss):
                Manager(0, disk, managers=1, journals=1)
            again = Manager(0, disk, managers=1, journals=1)
            self.assertEqual((again.role, again.epoch, again.seen), ("idle", 1, 1))
            self.assertEqual(again.campaign(), [(("journal", 0), ("promise", 2))])

    def test_6_4_many_losses_one_behind_another(self):
        disk = Disk()
        epochs = []
        for step in range(60):
            manager = Manager(2, disk, managers=3, journals=1)
            self.assertEqual(manager.epoch, max(epochs, default=0))
            disk.arm(step % 3, after=step % 2)
            try:
                for _ in range(2):
                    manager.campaign()
                    epochs.append(manager.epoch)
            except PowerLoss:
                if step % 3 == 1:
                    epochs.append(epochs[-1] + 3 if epochs else 2)
            disk.disarm()
        self.assertEqual(epochs, sorted(set(epochs)))


class ElectionTest(unittest.TestCase):
    def test_6_6_exactly_a_majority(self):
        for journals in range(1, 8):
            for order in (list(range(journals)), list(range(journals))[::-1]):
                manager = in_role("asking", journals=journals)
                for journal in order[:needed(journals) - 1]:
                    self.assertEqual(from_journal(manager, journal, "promised", 2, 0, log_of(RECORDS)), [])
                    self.assertEqual((manager.role, manager.log), ("asking", None))
                pairs = from_journal(manager, order[needed(journals) - 1], "promised", 2, 0, log_of(RECORDS))
                self.assertEqual(pairs, to_all(journals, ("sync", 2, log_of(RECORDS))))
                self.assertEqual((manager.role, manager.log.value(), manager.commit), ("syncing", log_of(RECORDS), 0))
                self.assertIs(type(manager.log), Log)

    def test_6_6_the_first_promise_of_a_journal_counts(self):
        manager = in_role("asking")
        self.assertEqual(from_journal(manager, 2, "promised", 2, 1, log_of(RECORDS[:1])), [])
        for _ in range(3):
            self.assertEqual(from_journal(manager, 2, "promised", 2, 1, log_of(RECORDS[:1])), [])
            self.assertEqual(from_journal(manager, 2, "promised", 2, 9, log_of(RECORDS)), [])
        self.assertEqual(manager.role, "asking")
        pairs = from_journal(manager, 1, "promised", 2, 0, log_of(RECORDS[:2]))
        self.assertEqual(pairs, to_all(3, ("sync", 2, log_of(RECORDS[:1]))))

    def test_6_6_the_best_log(self):
        logs = {name: log_of([(9, 1, ("mkdir", "/" + name))] + list(RECORDS)) for name in "abc"}
        rows = [
            ([(0, 1, "a"), (1, 3, "b"), (2, 2, "c")], "b"),
            ([(0, 3, "a"), (1, 3, "b"), (2, 3, "c")], "a"),
            ([(0, 1, "a"), (1, 3, "b"), (2, 3, "c")], "b"),
        ]
        for promises, best in rows:
            for order in itertools.permutations(promises):
                manager = in_role("asking", journals=5)
                for journal, epoch, name in order:
                    pairs = from_journal(manager, journal, "promised", 2, epoch, logs[name])
                self.assertEqual(pairs, to_all(5, ("sync", 2, logs[best])))

    def test_6_6_the_length_counts_and_not_the_count_of_records(self):
        for order in ((0, 1), (1, 0)):
            told = {0: log_of(RECORDS[:3]), 1: log_of(RECORDS, 4)}
            manager = in_role("asking")
            for journal in order:
                from_journal(manager, journal, "promised", 2, 1, told[journal])
            self.assertEqual(manager.log.value(), log_of(RECORDS, 4))

    def test_6_6_a_late_promise_does_nothing(self):
        for role in ("syncing", "leading"):
            manager = in_role(role, RECORDS[:2])
            before = state(manager)
            self.assertEqual(from_journal(manager, 2, "promised", 2, 1, log_of(RECORDS)), [])
            self.assertEqual(state(manager), before)

    def test_6_5_every_body_in_every_role(self):
        """What takes no effect; the rest has tests of its own."""
        effects = [("asking", "promised"), ("syncing", "synced"), ("leading", "synced"), ("leading", "ponged")]
        for role, shift in itertools.product(ROLES, (-2, -1, 0, 1, 2, MOST - 10)):
            epoch = in_role(role, RECORDS, campaigns=2).epoch + shift
            if epoch < 0:
                continue
            for body in journal_bodies(epoch):
                manager = in_role(role, RECORDS, campaigns=2)
                if role == "leading":
                    from_client(manager, 0, "read", 1, ("find", "/"))
                if shift == 0 and (role, body[0]) in effects:
                    continue
                before = state(manager)
                with self.subTest(role=role, body=body):
                    self.assertEqual(from_journal(manager, 0, *body), [])
                    self.assertEqual(from_journal(manager, 2, *body), [])
                    self.assertEqual(state(manager), before)

    def test_6_5_promises_of_other_epochs_do_not_count(self):
        for epoch in (0, 1, 2, 3, 5, 6, 8, MOST):
            manager = in_role("asking", campaigns=2)
            for journal in range(3):
                self.assertEqual(from_journal(manager, journal, "promised", epoch, 0, log_of(RECORDS)), [])
            self.assertEqual(manager.resend(), to_all(3, ("promise", 4)))


class LengthsTest(unittest.TestCase):
    def test_6_7_exactly_a_majority_and_an_empty_list(self):
        for journals in range(1, 8):
            for order in (list(range(journals)), list(range(journals))[::-1]):
                manager = in_role("syncing", RECORDS, journals=journals)
                for journal in order[:needed(journals) - 1]:
                    self.assertEqual(from_journal(manager, journal, "synced", 2, 4), [])
                    self.assertEqual((manager.role, manager.commit), ("syncing", 0))
                self.assertEqual(from_journal(manager, order[needed(journals) - 1], "synced", 2, 4), [])
                self.assertEqual((manager.role, manager.commit), ("leading", 4))
                self.assertEqual(manager.log.value(), log_of(RECORDS))

    def test_6_7_the_commit_number_is_the_length_whatever_was_told(self):
        for lengths in itertools.product((0, 1, 4), repeat=2):
            manager = in_role("syncing", RECORDS)
            for journal, length in enumerate(lengths):
                self.assertEqual(from_journal(manager, journal, "synced", 2, length), [])
            self.assertEqual((manager.role, manager.commit), ("leading", 4))

    def test_6_7_a_journal_counts_once(self):
        manager = in_role("syncing", RECORDS)
        for length in (4, 4, 2, 4, 0):
            self.assertEqual(from_journal(manager, 1, "synced", 2, length), [])
            self.assertEqual((manager.role, manager.commit), ("syncing", 0))

    def test_6_7_the_space_is_that_of_the_image_and_the_records(self):
        for base in range(5):
            manager = in_role("leading", RECORDS, base)
            self.assertEqual((manager.commit, manager.log.base), (4, base))
            from_client(manager, 7, "read", 1, ("content", 1))
            from_journal(manager, 0, "ponged", 2, 1)
            answer = ("content", 1, 1, ((2, 1, 1, "x"),))
            self.assertEqual(from_journal(manager, 1, "ponged", 2, 1), [(("client", 7), ("value", 1, 4, answer))])

    def test_6_7_an_empty_log(self):
        manager = in_role("leading")
        self.assertEqual((manager.role, manager.commit, manager.log.value()), ("leading", 0, (0, NEW, ())))

    def test_6_8_the_greatest_length_of_a_journal_counts(self):
        manager = in_role("leading", RECORDS)
        for serial in (3, 4, 5):
            from_client(manager, 0, "request", serial, ("append", "/b", "x"))
        self.assertEqual(from_journal(manager, 0, "synced", 2, 7), [])
        for length in (4, 0, 5, 7):
            self.assertEqual(from_journal(manager, 0, "synced", 2, length), [])
        self.assertEqual(manager.commit, 4)
        pairs = from_journal(manager, 2, "synced", 2, 6)
        self.assertEqual([body[1] for _, body in pairs], [3, 4])
        self.assertEqual(manager.commit, 6)
        self.assertEqual([body[1] for _, body in from_journal(manager, 1, "synced", 2, 7)], [5])

    def test_6_8_lengths_in_any_order(self):
        for order in itertools.permutations([(0, 5), (0, 7), (1, 6), (2, 7), (1, 4), (2, 0)]):
            manager = in_role("leading", RECORDS)
            for serial in (3, 4, 5):
                from_client(manager, 0, "request", serial, ("mkdir", f"/d{serial}"))
            answered = []
            told = {0: 4, 1: 4}
            for journal, length in order:
                pairs = from_journal(manager, journal, "synced", 2, length)
                told[journal] = max(length, told.get(journal, 0))
                point = max(4, sorted([told.get(number, 0) for number in range(3)])[1])
                self.assertEqual(manager.commit, point)
                answered += [body[1] for _, body in pairs]
                self.assertEqual(answered, list(range(3, point - 4 + 3)))
            self.assertEqual(answered, [3, 4, 5])

    def test_6_8_several_records_at_once_each_to_its_client(self):
        for journals in range(1, 8):
            manager = in_role("leading", RECORDS, journals=journals)
            from_client(manager, 0, "request", 3, ("create", "/c"))
            from_client(manager, 9, "request", 1, ("append", "/c", "xy"))
            from_client(manager, 0, "request", 4, ("append", "/c", "z"))
            from_client(manager, 1, "request", 3, ("seal", "/missing"))
            for journal in range(needed(journals) - 1):
                self.assertEqual(from_journal(manager, journal, "synced", 2, 8), [])
            last = needed(journals) - 1
            wanted = [
                (("client", 0), ("answer", 3, ("made", 2))),
                (("client", 9), ("answer", 1, ("written", 6, 2, 0))),
                (("client", 0), ("answer", 4, ("written", 7, 2, 2))),
                (("client", 1), ("answer", 3, ("refused", "missing"))),
            ]
            self.assertEqual(from_journal(manager, last, "synced", 2, 8), wanted)
            self.assertEqual(manager.commit, 8)
            for journal in range(journals):
                for length in (8, 6, 0):
                    self.assertEqual(from_journal(manager, journal, "synced", 2, length), [])
            self.assertEqual(manager.commit, 8)

    def test_6_8_exactly_a_majority(self):
        for journals in range(1, 8):
            manager = in_role("leading", RECORDS, journals=journals)
            from_client(manager, 3, "request", 1, ("create", "/c"))
            order = list(range(journals))[::-1]
            for journal in order[:needed(journals) - 1]:
                self.assertEqual(from_journal(manager, journal, "synced", 2, 5), [])
                self.assertEqual(manager.commit, 4)
            pairs = from_journal(manager, order[needed(journals) - 1], "synced", 2, 5)
            self.assertEqual(pairs, [(("client", 3), ("answer", 1, ("made", 2)))])
            self.assertEqual(manager.commit, 5)

    def test_6_8_the_commit_number_does_not_fall(self):
        manager = in_role("syncing", RECORDS)
        for journal in (0, 1):
            from_journal(manager, journal, "synced", 2, 0)
        for journal, length in ((0, 1), (1, 2), (2, 3), (0, 4), (1, 4)):
            self.assertEqual(from_journal(manager, journal, "synced", 2, length), [])
            self.assertEqual(manager.commit, 4)

    def test_6_5_lengths_of_other_epochs_do_not_count(self):
        for epoch in (0, 1, 2, 3, 5, 6, MOST):
            manager = in_role("syncing", RECORDS, campaigns=2)
            for journal in range(3):
                self.assertEqual(from_journal(manager, journal, "synced", epoch, 4), [])
            self.assertEqual(manager.resend(), to_all(3, ("sync", 4, log_of(RECORDS))))


class RefusalTest(unittest.TestCase):
    def test_6_10_a_promise_at_or_below_the_own_epoch(self):
        for role in ROLES:
            for promise, epoch in itertools.product((0, 1, 3, 4), (0, 1, 4, 6, MOST)):
                manager = in_role(role, RECORDS, campaigns=2)
                if promise > manager.epoch:
                    continue
                before = state(manager)
                self.assertEqual(from_journal(manager, 0, "refused", epoch, promise), [])
                self.assertEqual(state(manager), before)

    def test_6_10_a_promise_above_the_own_epoch(self):
        for role in ROLES:
            for shift, epoch in itertools.product((1, 2, 7, 100), (0, 1, 4, 6, MOST)):
                manager = in_role(role, RECORDS, campaigns=2)
                own = manager.epoch
                if role == "leading":
                    from_client(manager, 0, "read", 1, ("find", "/"))
                self.assertEqual(from_journal(manager, 2, "refused", epoch, own + shift), [])
                self.assertEqual(state(manager), ("idle", own, own + shift, None, 0, []))
                following = own + shift + 1 + (own + shift + 1) % 2
                self.assertEqual(manager.campaign(), to_all(3, ("promise", following)))

    def test_6_10_the_greatest_promise_counts(self):
        manager = in_role("idle", number=1)
        for promise, seen in ((4, 4), (2, 4), (0, 4), (9, 9), (9, 9), (5, 9), (MOST - 2, MOST - 2)):
            self.assertEqual(from_journal(manager, 0, "refused", 1, promise), [])
            self.assertEqual((manager.role, manager.epoch, manager.seen), ("idle", 0, seen))
        self.assertEqual(manager.campaign(), to_all(3, ("promise", MOST - 1)))

    def test_6_10_what_was_forgotten_takes_no_effect(self):
        for role in ROLES[1:]:
            manager = in_role(role, RECORDS)
            from_client(manager, 0, "read", 1, ("find", "/"))
            from_journal(manager, 0, "refused", 2, 3)
            before = state(manager)
            for journal, body in itertools.product(range(3), journal_bodies(2)):
                self.assertEqual(from_journal(manager, journal, *body), [])
            self.assertEqual(from_client(manager, 0, "request", 3, ("mkdir", "/new")), [])
            self.assertEqual(from_client(manager, 0, "read", 2, ("find", "/")), [])
            self.assertEqual(manager.checkpoint(), [])
            self.assertEqual(state(manager), before)

    def test_6_10_a_known_promise_between_does_not_end_a_later_epoch(self):
        manager = in_role("asking")
        from_journal(manager, 0, "refused", 2, 7)
        manager.campaign()
        self.assertEqual(manager.epoch, 8)
        from_journal(manager, 1, "refused", 2, 7)
        from_journal(manager, 2, "refused", 8, 8)
        self.assertEqual((manager.role, manager.seen), ("asking", 8))


if __name__ == "__main__":
    unittest.main()

"""Requests, reads, checkpoints and resending of a manager: points 6.9 and 6.11 to 6.15."""

import itertools
import unittest

from tests.managers import NEW, ROLES, commit_all, from_client, from_journal, in_role, log_of, needed, state, to_all
from tests.samples import MOST
from tests.test_space import filled

RECORDS = ((0, 1, ("create", "/a")), (1, 1, ("append", "/a", "x")), (0, 2, ("mkdir", "/a")), (1, 2, ("seal", "/a")))
FIND = ("find", "/")


def edit(manager, *records):
    return to_all(manager.journals, ("edit", manager.epoch, manager.log.length - len(records) + 1, records))


def answer(client, serial, told):
    return [(("client", client), ("answer", serial, told))]


class RequestTest(unittest.TestCase):
    def check_nothing(self, manager, *requests):
        before = state(manager)
        for client, serial, deed in requests:
            self.assertEqual(from_client(manager, client, "request", serial, deed), [])
        self.assertEqual(state(manager), before)

    def test_6_11_a_manager_that_does_not_lead(self):
        for role in ROLES[:3]:
            manager = in_role(role, RECORDS)
            before = state(manager)
            for serial in (1, 2, 3):
                self.check_nothing(manager, (0, serial, RECORDS[2][2]))
                self.assertEqual(from_client(manager, 0, "read", serial, FIND), [])
            self.assertEqual(state(manager), before)

    def test_6_12_the_next_serial(self):
        for journals in (1, 2, 3, 7):
            manager = in_role("leading", RECORDS, journals=journals)
            rows = [(0, 3), (1, 3), (7, 1), (7, 2), (0, 4), (MOST, 1)]
            for number, (client, serial) in enumerate(rows, 5):
                deed = ("append", "/a", f"{serial}")
                pairs = from_client(manager, client, "request", serial, deed)
                self.assertEqual(pairs, to_all(journals, ("edit", 2, number, ((client, serial, deed),))))
                self.assertEqual((manager.log.length, manager.commit), (number, 4))
                self.assertEqual(manager.log.record(number), (client, serial, deed))

    def test_6_12_the_last_serial_before_it_is_committed(self):
        manager = in_role("leading", RECORDS)
        from_client(manager, 0, "request", 3, ("mkdir", "/new"))
        self.check_nothing(manager, (0, 3, ("mkdir", "/new")), (0, 3, ("mkdir", "/other")))
        from_client(manager, 0, "request", 4, ("mkdir", "/more"))
        self.check_nothing(manager, (0, 3, ("mkdir", "/new")), (0, 4, ("mkdir", "/more")), (0, 4, ("seal", "/a")))

    def test_6_12_the_last_serial_behind_a_commit_of_some(self):
        manager = in_role("leading", RECORDS)
        for serial in (3, 4):
            from_client(manager, 0, "request", serial, ("mkdir", f"/d{serial}"))
        for journal in (0, 1):
            pairs = from_journal(manager, journal, "synced", 2, 5)
        self.assertEqual(pairs, answer(0, 3, ("made", 2)))
        self.check_nothing(manager, (0, 3, ("mkdir", "/d3")), (0, 4, ("mkdir", "/d4")), (0, 2, RECORDS[2][2]))
        commit_all(manager)
        self.assertEqual(from_client(manager, 0, "request", 4, ("mkdir", "/d4")), answer(0, 4, ("made", 3)))

    def test_6_12_the_last_serial_when_it_is_committed(self):
        manager = in_role("leading", RECORDS)
        from_client(manager, 0, "request", 3, ("mkdir", "/new"))
        self.assertEqual(commit_all(manager), answer(0, 3, ("made", 2)))
        before = state(manager)
        for deed in (("mkdir", "/new"), ("mkdir", "/other"), ("fly",)):
            for _ in range(2):
                self.assertEqual(from_client(manager, 0, "request", 3, deed), answer(0, 3, ("made", 2)))
        self.assertEqual(state(manager), before)

    def test_6_12_answers_of_all_kinds_are_told_again(self):
        manager = in_role("leading", RECORDS)
        for client, serial, told in ((0, 2, ("refused", "exists")), (1, 2, ("sealed", 1, 1))):
            self.assertEqual(from_client(manager, client, "request", serial, ("fly",)), answer(client, serial, told))

    def test_6_12_older_and_later_serials(self):
        manager = in_role("leading", RECORDS)
        for client, serial in ((0, 1), (1, 1), (0, 4), (0, 5), (0, MOST), (1, 4), (7, 2), (7, 3), (MOST, 2)):
            self.check_nothing(manager, (client, serial, ("mkdir", "/new")))
        from_client(manager, 0, "request", 3, ("mkdir", "/new"))
        for client, serial in ((0, 1), (0, 2), (0, 3), (0, 5), (0, 6)):
            self.check_nothing(manager, (client, serial, ("mkdir", "/new")))
        commit_all(manager)
        for client, serial in ((0, 1), (0, 2), (0, 5), (0, 6)):
            self.check_nothing(manager, (client, serial, ("mkdir", "/new")))

    def test_6_12_clients_that_are_known_by_the_image_alone(self):
        for base in range(5):
            manager = in_role("leading", RECORDS, base)
            self.check_nothing(manager, (0, 1, ("mkdir", "/new")), (0, 4, ("mkdir", "/new")), (1, 1, ("seal", "/a")))
            self.assertEqual(from_client(manager, 0, "request", 2, ("fly",)), answer(0, 2, ("refused", "exists")))
            self.assertEqual(from_client(manager, 1, "request", 2, ("fly",)), answer(1, 2, ("sealed", 1, 1)))
            pairs = from_client(manager, 0, "request", 3, ("mkdir", "/new"))
            self.assertEqual(pairs, edit(manager, (0, 3, ("mkdir", "/new"))))

    def test_6_12_behind_a_checkpoint(self):
        manager = in_role("leading", RECORDS)
        from_client(manager, 0, "request", 3, ("mkdir", "/new"))
        manager.checkpoint()
        self.assertEqual((manager.log.base, manager.log.length), (4, 5))
        self.check_nothing(manager, (0, 2, ("fly",)), (0, 3, ("fly",)), (0, 5, ("fly",)), (1, 1, ("fly",)))
        self.assertEqual(from_client(manager, 1, "request", 2, ("fly",)), answer(1, 2, ("sealed", 1, 1)))
        self.assertEqual(commit_all(manager), answer(0, 3, ("made", 2)))
        manager.checkpoint()
        self.assertEqual((manager.log.base, manager.log.length), (5, 5))
        self.check_nothing(manager, (0, 2, ("fly",)), (0, 5, ("fly",)), (2, 2, ("fly",)))
        self.assertEqual(from_client(manager, 0, "request", 3, ("fly",)), answer(0, 3, ("made", 2)))
        self.assertEqual(from_client(manager, 2, "request", 1, ("fly",)), edit(manager, (2, 1, ("fly",))))
        self.assertEqual(manager.log.value(), (5, manager.log.image, ((2, 1, ("fly",)),)))

    def test_6_8_skipped_records_of_another_manager_are_behind_the_commit(self):
        records = RECORDS + ((0, 9, ("mkdir", "/late")), (5, 4, ("mkdir", "/late")))
        manager = in_role("leading", records)
        self.assertEqual(manager.commit, 6)
        self.assertEqual(from_client(manager, 0, "request", 2, ("fly",)), answer(0, 2, ("refused", "exists")))
        self.check_nothing(manager, (0, 9, ("fly",)), (0, 10, ("fly",)), (5, 4, ("fly",)), (5, 5, ("fly",)))
        pairs = from_client(manager, 5, "request", 1, ("fly",))
        self.assertEqual(pairs, edit(manager, (5, 1, ("fly",))))


class ReadTest(unittest.TestCase):
    def test_6_13_tokens_from_1_on(self):
        for journals in (1, 2, 3, 6):
            manager = in_role("leading", RECORDS, journals=journals)
            for token, client in enumerate((0, 7, 0, 1, MOST), 1):
                pairs = from_client(manager, client, "read", 9 - token, FIND)
                self.assertEqual(pairs, to_all(journals, ("ping", 2, token)))

    def test_6_13_anew_in_each_epoch(self):
        manager = in_role("leading", RECORDS)
        for _ in range(3):
            epoch = manager.epoch
            for token in (1, 2):
                pairs = from_client(manager, 0, "read", token, FIND)
                self.assertEqual(pairs, to_all(3, ("ping", epoch, token)))
            manager.campaign()
            for journal in (0, 1):
                from_journal(manager, journal, "promised", manager.epoch, epoch, log_of(RECORDS))
            for journal in (0, 1):
                from_journal(manager, journal, "synced", manager.epoch, 4)

    def test_6_9_exactly_a_majority(self):
        for journals in range(1, 8):
            for order in (list(range(journals)), list(range(journals))[::-1]):
                manager = in_role("leading", RECORDS, journals=journals)
                from_client(manager, 3, "read", 8, ("content", 1))
                for journal in order[:needed(journals) - 1]:
                    self.assertEqual(from_journal(manager, journal, "ponged", 2, 1), [])
                    self.assertEqual(from_journal(manager, journal, "ponged", 2, 1), [])
                told = ("content", 1, 1, ((2, 1, 1, "x"),))
                pairs = from_journal(manager, order[needed(journals) - 1], "ponged", 2, 1)
                self.assertEqual(pairs, [(("client", 3), ("value", 8, 4, told))])
                before = state(manager)
                for journal in range(journals):
                    self.assertEqual(from_journal(manager, journal, "ponged", 2, 1), [])
                self.assertEqual(state(manager), before)

    def test_6_9_unknown_and_closed_tokens(self):
        manager = in_role("leading", RECORDS)
        for client in (0, 1):
            from_client(manager, client, "read", 1, FIND)
        from_journal(manager, 0, "ponged", 2, 1)
        self.assertEqual(len(from_journal(manager, 1, "ponged", 2, 1)), 1)
        before = state(manager)
        for journal, token in itertools.product(range(3), (0, 1, 3, 4, MOST)):
            self.assertEqual(from_journal(manager, journal, "ponged", 2, token), [])
        self.assertEqual(state(manager), before)
        self.assertEqual(from_client(manager, 1, "read", 2, FIND), to_all(3, ("ping", 2, 3)))

    def test_6_9_several_reads_open_at_once(self):
        manager = in_role("leading", RECORDS)
        queries = [FIND, ("names", "/"), ("content", 0), ("fly",)]
        answers = [("node", 0, 0, 1), ("names", ("a",)), ("refused", "kind"), ("refused", "deed")]
        for client, query in enumerate(queries):
            from_client(manager, client, "read", 10 + client, query)
        for token in (3, 1, 4, 2):
            self.assertEqual(from_journal(manager, token % 2, "ponged", 2, token), [])
        for token in (2, 4, 1, 3):
            pairs = from_journal(manager, 2, "ponged", 2, token)
            self.assertEqual(pairs, [(("client", token - 1), ("value", 9 + token, 4, answers[token - 1]))])

    def test_6_9_two_reads_of_one_client(self):
        manager = in_role("leading", RECORDS)
        for _ in range(2):
            from_client(manager, 0, "read", 5, FIND)
        for token in (1, 2):
            from_journal(manager, 0, "ponged", 2, token)
            pairs = from_journal(manager, 1, "ponged", 2, token)
            self.assertEqual(pairs, [(("client", 0), ("value", 5, 4, ("node", 0, 0, 1)))])

    def test_6_9_the_answer_is_that_of_the_space_then(self):
        manager = in_role("leading", RECORDS[:1])
        from_client(manager, 4, "read", 1, ("content", 1))
        from_client(manager, 1, "request", 1, ("append", "/a", "xy"))
        from_journal(manager, 0, "ponged", 2, 1)
        commit_all(manager)
        from_client(manager, 1, "request", 2, ("append", "/a", "z"))
        told = ("content", 1, 0, ((2, 1, 1, "xy"),))
        self.assertEqual(from_journal(manager, 2, "ponged", 2, 1), [(("client", 4), ("value", 1, 2, told))])

    def test_6_5_pongs_of_other_epochs_do_not_count(self):
        manager = in_role("leading", RECORDS, campaigns=2)
        from_client(manager, 0, "read", 1, FIND)
        for epoch, journal in itertools.product((0, 1, 2, 3, 5, 6, MOST), range(3)):
            self.assertEqual(from_journal(manager, journal, "ponged", epoch, 1), [])
        self.assertEqual(manager.resend()[-3:], to_all(3, ("ping", 4, 1)))

    def test_6_13_a_read_changes_neither_the_log_nor_the_commit(self):
        manager = in_role("leading", RECORDS)
        before = state(manager)[:5]
        for query in (FIND, ("fly", 1, 2, 3), ("append", "/a", "x")):
            from_client(manager, 0, "read", 1, query)
            self.assertEqual(state(manager)[:5], before)


class CheckpointTest(unittest.TestCase):
    def test_6_14_a_commit_number_above_the_base(self):
        for base, journals in itertools.product(range(4), (1, 2, 3, 7)):
            manager = in_role("leading", RECORDS, base, journals=journals)
            image = filled(RECORDS).to_image()
            self.assertEqual(manager.checkpoint(), to_all(journals, ("purge", 2, 4, image)))
            self.assertEqual((manager.log.value(), manager.commit), ((4, image, ()), 4))

    def test_6_14_a_commit_number_at_the_base(self):
        for manager in (in_role("leading"), in_role("leading", RECORDS, 4)):
            before = state(manager)
            self.assertEqual(manager.checkpoint(), [])
            self.assertEqual(state(manager), before)
            from_client(manager, 7, "request", 1, ("mkdir", "/new"))
            before = state(manager)
            self.assertEqual(manager.checkpoint(), [])
            self.assertEqual(state(manager), before)

    def test_6_14_twice(self):
        manager = in_role("leading", RECORDS)
        manager.checkpoint()
        self.assertEqual(manager.checkpoint(), [])
        from_client(manager, 7, "request", 1, ("mkdir", "/new"))
        commit_all(manager)
        image = filled(RECORDS + ((7, 1, ("mkdir", "/new")),)).to_image()
        self.assertEqual(manager.checkpoint(), to_all(3, ("purge", 2, 5, image)))

    def test_6_14_records_above_the_commit_number_stay(self):
        manager = in_role("leading", RECORDS)
        for serial in (3, 4, 5):
            from_client(manager, 0, "request", serial, ("mkdir", f"/d{serial}"))
        for journal in (0, 1):
            from_journal(manager, journal, "synced", 2, 5)
        manager.checkpoint()
        image = filled(RECORDS + ((0, 3, ("mkdir", "/d3")),)).to_image()
        records = tuple((0, serial, ("mkdir", f"/d{serial}")) for serial in (4, 5))
        self.assertEqual((manager.log.value(), manager.commit), ((5, image, records), 5))
        wanted = answer(0, 4, ("made", 3)) + answer(0, 5, ("made", 4))
        self.assertEqual(commit_all(manager), wanted)

    def test_6_14_the_other_roles_do_nothing(self):
        for role in ROLES[:3]:
            manager = in_role(role, RECORDS)
            before = state(manager)
            self.assertEqual(manager.checkpoint(), [])
            self.assertEqual(state(manager), before)


class ResendTest(unittest.TestCase):
    def test_6_15_idle(self):
        self.assertEqual(in_role("idle").resend(), [])

    def test_6_15_asking(self):
        manager = in_role("asking", journals=5)
        self.assertEqual(manager.resend(), to_all(5, ("promise", 2)))
        for journal in (3, 0):
            from_journal(manager, journal, "promised", 2, 0, log_of(()))
        pairs = to_all(5, ("promise", 2))
        self.assertEqual(manager.resend(), [pairs[1], pairs[2], pairs[4]])

    def test_6_15_syncing(self):
        for base in range(5):
            manager = in_role("syncing", RECORDS, base, journals=5)
            sync = to_all(5, ("sync", 2, log_of(RECORDS, base)))
            self.assertEqual(manager.resend(), sync)
            from_journal(manager, 3, "synced", 2, 4)
            self.assertEqual(manager.resend(), sync[:3] + sync[4:])

    def test_6_15_each_length(self):
        """Journal 0 has told a length, journal 1 the whole length, and journal 2 nothing."""
        for role, base, length in itertools.product(("syncing", "leading"), range(5), range(5)):
            manager = in_role("syncing", RECORDS, base, journals=3 if role == "leading" else 5)
            from_journal(manager, 0, "synced", 2, length)
            from_journal(manager, 1, "synced", 2, 4)
            self.assertEqual(manager.role, role)
            wanted = []
            if length < base:
                wanted.append((("journal", 0), ("purge", 2, base, filled(RECORDS[:base]).to_image())))
            elif length < 4:
                wanted.append((("journal", 0), ("edit", 2, length + 1, RECORDS[length:])))
            wanted += to_all(manager.journals, ("sync", 2, log_of(RECORDS, base)))[2:]
            before = state(manager)
            self.assertEqual(manager.resend(), wanted)
            self.assertEqual(state(manager), before)

    def test_6_15_the_log_as_it_is_now(self):
        manager = in_role("leading", RECORDS)
        from_client(manager, 7, "request", 1, ("fly",))
        manager.checkpoint()
        image = filled(RECORDS).to_image()
        self.assertEqual(manager.log.value(), (4, image, ((7, 1, ("fly",)),)))
        wanted = [(("journal", number), ("edit", 2, 5, ((7, 1, ("fly",)),))) for number in (0, 1)]
        wanted.append((("journal", 2), ("sync", 2, manager.log.value())))
        self.assertEqual(manager.resend(), wanted)
        from_journal(manager, 2, "synced", 2, 3)
        self.assertEqual(manager.resend()[2], (("journal", 2), ("purge", 2, 4, image)))
        from_journal(manager, 2, "synced", 2, 5)
        self.assertEqual(manager.resend(), wanted[:2])

    def test_6_15_the_greatest_length_counts(self):
        manager = in_role("leading", RECORDS)
        from_client(manager, 7, "request", 1, ("fly",))
        for length in (5, 0, 4):
            from_journal(manager, 1, "synced", 2, length)
        self.assertEqual([receiver for receiver, _ in manager.resend()], [("journal", 0), ("journal", 2)])

    def test_6_15_open_reads_behind_the_rest(self):
        manager = in_role("leading", RECORDS)
        for client in range(12):
            from_client(manager, client, "read", 1, FIND)
        from_journal(manager, 1, "ponged", 2, 11)
        from_journal(manager, 0, "ponged", 2, 2)
        for journal in (0, 2):
            from_journal(manager, journal, "ponged", 2, 3)
        asked = itertools.product([token for token in range(1, 13) if token != 3], range(3))
        pings = [(("journal", journal), ("ping", 2, token)) for token, journal in asked
                 if (token, journal) not in ((11, 1), (2, 0))]
        sync = (("journal", 2), ("sync", 2, log_of(RECORDS)))
        self.assertEqual(manager.resend(), [sync] + pings)

    def test_6_15_what_is_sent_again_is_not_sent_as_something_new(self):
        manager = in_role("leading", RECORDS)
        from_client(manager, 0, "read", 1, FIND)
        from_client(manager, 0, "request", 3, ("fly",))
        first = manager.resend()
        for _ in range(3):
            self.assertEqual(manager.resend(), first)
        self.assertEqual(from_client(manager, 0, "read", 1, FIND), to_all(3, ("ping", 2, 2)))

    def test_3_9_a_new_log_with_no_records(self):
        manager = in_role("leading")
        self.assertEqual(manager.resend(), [(("journal", 2), ("sync", 2, (0, NEW, ())))])
        from_journal(manager, 2, "synced", 2, 0)
        self.assertEqual(manager.resend(), [])


if __name__ == "__main__":
    unittest.main()

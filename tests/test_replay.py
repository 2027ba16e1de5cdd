import unittest

from appendhall.log import Log
from appendhall.replay import replay, tail_serial
from appendhall.space import Space
from tests.samples import MOST
from tests.test_space import filled, random_records, view


class ReplayTest(unittest.TestCase):
    def test_6_7_the_log_of_a_new_journal(self):
        space = replay(Log(0, Space().to_image(), ()))
        self.assertIs(type(space), Space)
        self.assertEqual(view(space), view(Space()))

    def test_6_7_records_on_the_image_of_a_new_space(self):
        records = ((7, 1, ("create", "/notes")), (7, 1, ("seal", "/notes")), (7, 2, ("append", "/notes", "first")))
        space = replay(Log(0, Space().to_image(), records))
        self.assertEqual(space.applied, 3)
        self.assertEqual(space.query(("content", 1)), ("content", 1, 0, ((3, 7, 2, "first"),)))
        self.assertEqual((space.last_serial(7), space.last_answer(7)), (2, ("written", 3, 1, 0)))

    def test_6_7_records_on_the_image_of_an_older_space(self):
        for seed in range(8):
            records = tuple(random_records(seed, 90))
            whole = filled(records)
            for base in (0, 1, 30, 60, 89, 90):
                log = Log(base, filled(records[:base]).to_image(), records[base:])
                space = replay(log)
                self.assertEqual(view(space), view(whole))
                self.assertEqual(space.applied, log.length)

    def test_4_21_skipped_records_count(self):
        records = ((0, 2, ("create", "/a")), (0, 1, ("create", "/b")), (0, 3, ("create", "/c")))
        space = replay(Log(0, Space().to_image(), records))
        self.assertEqual((space.applied, space.query(("names", "/"))), (3, ("names", ("b",))))
        later = replay(Log(3, space.to_image(), ((0, 2, ("append", "/b", "x")),)))
        self.assertEqual(later.last_answer(0), ("written", 4, 1, 0))

    def test_0_4_the_log_does_not_change_and_the_space_is_new(self):
        records = tuple(random_records(1, 40))
        log = Log(20, filled(records[:20]).to_image(), records[20:])
        value = log.value()
        space = replay(log)
        before = view(space)
        replay(log).apply((9, 1, ("mkdir", "/other")))
        self.assertEqual(view(space), before)
        space.apply((9, 1, ("mkdir", "/new")))
        self.assertEqual(log.value(), value)
        self.assertEqual(view(replay(log)), before)


class TailSerialTest(unittest.TestCase):
    # The clients 0, 1 and 2 have records in the space, the clients 0, 3 and 4 in the tail.
    HEAD = ((0, 1, ("create", "/a")), (1, 1, ("create", "/b")), (2, 1, ("seal", "/a")), (1, 2, ("seal", "/b")))
    TAIL = ((0, 2, ("append", "/a", "x")), (3, 1, ("mkdir", "/c")), (0, 3, ("append", "/a", "x")), (4, 9, ("fly",)))

    def serials(self, log, space):
        return [tail_serial(log, space, client) for client in (0, 1, 2, 3, 4, 5, MOST)]

    def test_6_12_in_the_tail_in_the_space_and_nowhere(self):
        log = Log(0, Space().to_image(), self.HEAD + self.TAIL)
        self.assertEqual(self.serials(log, filled(self.HEAD)), [3, 2, 1, 1, 9, 0, 0])

    def test_6_12_with_each_count_of_applied_records(self):
        records = self.HEAD + self.TAIL
        for count in range(len(records) + 1):
            space = filled(records[:count])
            for base in range(count + 1):
                log = Log(base, filled(records[:base]).to_image(), records[base:])
                for client in (0, 1, 2, 3, 4, 5):
                    tail = [record[1] for record in records[count:] if record[0] == client]
                    wanted = tail[-1] if tail else space.last_serial(client)
                    with self.subTest(count=count, base=base, client=client):
                        self.assertEqual(tail_serial(log, space, client), wanted)

    def test_6_12_no_tail(self):
        space = filled(self.HEAD)
        for log in (Log(0, Space().to_image(), self.HEAD), Log(4, space.to_image(), ())):
            self.assertEqual(self.serials(log, space), [1, 2, 1, 0, 0, 0, 0])

    def test_6_12_the_last_record_counts_and_not_the_greatest_serial(self):
        log = Log(0, Space().to_image(), ((5, 8, ("fly",)), (5, 3, ("fly",))))
        self.assertEqual(tail_serial(log, Space(), 5), 3)

    def test_6_12_a_skipped_record_that_was_applied_does_not_count(self):
        records = ((5, 8, ("fly",)), (5, 1, ("fly",)))
        log = Log(0, Space().to_image(), records)
        self.assertEqual(tail_serial(log, filled(records[:1]), 5), 1)
        self.assertEqual(tail_serial(log, filled(records), 5), 1)
        self.assertEqual(tail_serial(Log(0, Space().to_image(), records[:1]), filled(records[:1]), 5), 0)

    def test_asking_changes_nothing(self):
        log = Log(0, Space().to_image(), self.HEAD + self.TAIL)
        space = filled(self.HEAD)
        before = (log.value(), view(space))
        self.serials(log, space)
        self.assertEqual((log.value(), view(space)), before)


if __name__ == "__main__":
    unittest.main()

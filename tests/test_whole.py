"""The whole program: what point 0.3 promises, over long rows of drawn deeds in halls of several sizes."""

import itertools
import unittest

from appendhall.audit import audit
from appendhall.hall import Hall
from appendhall.recovery import recover
from appendhall.replay import replay
from appendhall.scenario import perform
from appendhall.settle import settle
from tests.draws import Draws
from tests.halls import DrawnDeeds, deliver_all
from tests.test_space import filled

SIZES = [(1, 1, 1), (1, 2, 2), (2, 2, 2), (3, 1, 1), (3, 2, 2), (3, 3, 3), (3, 4, 4), (4, 2, 3), (5, 2, 2), (5, 3, 4), (6, 2, 1),
         (7, 4, 4)]


class Row:
    """A hall, in which drawn deeds are done and after each of them all is checked that can be checked."""

    def __init__(self, test, seed, sizes):
        journals, managers, clients = sizes
        self.test = test
        self.draws = Draws(seed)
        self.hall = Hall(journals=journals, managers=managers, clients=clients)
        self.drawn = DrawnDeeds(self.draws, self.hall)
        self.sent = 0
        # The records that some manager had committed, by their numbers.
        self.committed = {}
        self.images = {}
        self.done = {}

    def make_files(self):
        """Some files from the start on, so that more deeds find what they need."""
        self.hall.campaign(0)
        deliver_all(self.hall)
        for deed in (("create", "/a"), ("create", "/b"), ("mkdir", "/d"), ("create", "/d/a"), ("create", "/d/b")):
            self.hall.ask(0, deed)
            self.hall.send(0, 0)
            deliver_all(self.hall)
        self.sent = self.hall.network.sent
        self.check_manager(self.hall.running(("manager", 0)))

    def count(self, word, many=1):
        self.done[word] = self.done.get(word, 0) + many

    def step(self, at):
        deed = self.drawn.next(at)
        up = [machine for machine in self.hall.machines() if self.hall.is_up(machine)]
        kind, told = perform(self.hall, deed)
        if kind == "done":
            self.count(deed[0])
            self.check_numbers(told)
            down = [machine for machine in up if not self.hall.is_up(machine)]
            if down and deed[0] not in ("stop", "destroy"):
                self.count("lost power")
                self.test.assertEqual(told, [])
        for manager in range(self.hall.counts["manager"]):
            if self.hall.is_up(("manager", manager)):
                self.check_manager(self.hall.running(("manager", manager)))

    def check_numbers(self, numbers):
        self.test.assertEqual(numbers, list(range(self.sent + 1, self.sent + len(numbers) + 1)))
        self.sent += len(numbers)

    def check_manager(self, manager):
        """No two managers that lead commit unlike records at one number."""
        if manager.role != "leading":
            return
        for number in range(manager.log.base + 1, manager.commit + 1):
            record = manager.log.record(number)
            if number not in self.committed:
                self.test.assertEqual(len(self.committed), number - 1)
                self.committed[number] = record
            self.test.assertEqual(self.committed[number], record)
        self.test.assertEqual(manager.log.image, self.image(manager.log.base))

    def image(self, base):
        if base not in self.images:
            self.images[base] = filled([self.committed[number] for number in range(1, base + 1)]).to_image()
        return self.images[base]

    def majorities(self, limit):
        """Several majorities of the journals that are not destroyed, greater ones and other orders, too."""
        hall = self.hall
        journals = hall.counts["journal"]
        found = []
        for count in range(journals // 2 + 1, len(hall.intact()) + 1):
            found += list(itertools.combinations(hall.intact(), count))
            found.append(tuple(hall.intact()[::-1][:count]))
        while len(found) > limit:
            found.pop(self.draws.randrange(len(found)))
        return found

    def check_disks(self, limit):
        told = self.told()
        for numbers in self.majorities(limit):
            disks = [self.hall.disk(("journal", number)) for number in numbers]
            log = recover(disks, journals=self.hall.counts["journal"])
            self.test.assertGreaterEqual(log.length, len(self.committed))
            self.test.assertEqual(log.image, self.image(log.base))
            known = [self.committed[number] for number in range(log.base + 1, len(self.committed) + 1)]
            self.test.assertEqual(list(log.records[:len(known)]), known)
            space = replay(log)
            self.test.assertEqual(audit(self.hall.book.events(), space), [])
            for client, serial, text, (_, number, node, offset) in told:
                self.check_piece(space.query(("content", node))[3], (number, client, serial, text), offset)

    def told(self):
        """The pieces of which clients were told that they are written, with the answers."""
        asked, told = {}, []
        for word, client, number, what, *_ in self.hall.book.events():
            if word == "asked":
                asked[(client, number)] = what
            elif word == "answered" and what[0] == "written":
                told.append((client, number, asked[(client, number)][2], what))
        return told

    def check_piece(self, pieces, piece, offset):
        self.test.assertEqual(pieces.count(piece), 1)
        ahead = pieces[:pieces.index(piece)]
        self.test.assertEqual(sum(len(other[3]) for other in ahead), offset)
        same = [other for other in pieces if other[1:3] == piece[1:3]]
        self.test.assertEqual(same, [piece])

    def check_book(self):
        """The pieces told in every answer to a later read, and ascending numbers, by a look at all events."""
        events = self.hall.book.events()
        started, written = {}, []
        for event in events:
            word, client, number = event[:3]
            if word in ("asked", "looked"):
                started[(word, client, number)] = list(written)
                if word == "asked":
                    started[("deed", client, number)] = event[3]
            elif word == "answered" and event[3][0] == "written":
                _, place, node, offset = event[3]
                self.count("told")
                for earlier in started[("asked", client, number)]:
                    self.test.assertGreater(place, earlier[0][0])
                written.append(((place, client, number, started[("deed", client, number)][2]), node, offset))
            elif word == "seen" and event[4][0] == "content":
                self.count("seen")
                for piece, node, offset in started[("looked", client, number)]:
                    if node == event[4][1]:
                        self.count("seen piece")
                        self.check_piece(event[4][3], piece, offset)

    def check_settled(self):
        settle(self.hall)
        manager = self.hall.running(("manager", 0))
        self.test.assertEqual(manager.role, "leading")
        self.sent = self.hall.network.sent
        self.check_manager(manager)
        for client in range(self.hall.counts["client"]):
            thing = self.hall.running(("client", client))
            self.test.assertEqual((thing.request(), thing.read()), (None, None))
        closed = [event[:3] for event in self.hall.book.events() if event[0] in ("answered", "seen")]
        self.test.assertEqual(len(closed), len(set(closed)))
        self.check_disks(60)
        self.check_book()


class WholeTest(unittest.TestCase):
    def run_row(self, seed, sizes, steps):
        row = Row(self, seed, sizes)
        if seed % 4 > 0:
            row.make_files()
        for at in range(steps):
            row.step(at)
            if at % 60 == 59:
                row.check_disks(2)
        row.check_settled()
        return row

    def test_0_3_rows_in_halls_of_several_sizes(self):
        done = {}
        for seed in range(120):
            sizes = SIZES[seed % len(SIZES)]
            with self.subTest(seed=seed, sizes=sizes):
                row = self.run_row(seed, sizes, 900)
                for word, many in row.done.items():
                    done[word] = done.get(word, 0) + many
        # The rows are of use only if much of what can happen has happened.
        for word, least in (("told", 400), ("seen", 150), ("seen piece", 100), ("lost power", 400), ("destroy", 80),
                            ("checkpoint", 800), ("campaign", 400), ("stop", 300)):
            self.assertGreater(done[word], least)

    def test_0_3_rows_without_a_fault(self):
        """Without losses all that is asked is told."""
        for sizes in SIZES:
            row = Row(self, 5, sizes)
            row.make_files()
            hall = row.hall
            texts = {}
            for step in range(40):
                client = step % hall.counts["client"]
                texts[step] = ("written", 6 + step, 1, sum(len(f"t{at}") for at in range(step)))
                hall.ask(client, ("append", "/a", f"t{step}"))
                hall.send(client, 0)
                deliver_all(hall)
                self.assertEqual(hall.book.events()[-1][3], texts[step])
                hall.look(client, ("content", 1))
                hall.send(client, 0)
                deliver_all(hall)
                pieces = hall.book.events()[-1][4][3]
                self.assertEqual([piece[0] for piece in pieces], list(range(6, 7 + step)))
                row.check_manager(hall.running(("manager", 0)))
                if step % 7 == 6:
                    hall.checkpoint(0)
                    deliver_all(hall)
            row.check_disks(60)
            row.check_book()


class CutOffTest(unittest.TestCase):
    """Halls in which some messages arrive at some of the journals alone."""

    def deliver_among(self, hall, machines):
        """Deliver the messages between these machines until there is none, and drop all others."""
        while hall.network.numbers():
            number = hall.network.numbers()[0]
            sender, receiver, _ = hall.network.message(number)
            if sender in machines and receiver in machines:
                hall.deliver(number)
            hall.drop(number)

    def among(self, manager, *journals):
        return [("manager", manager), ("client", 0), ("client", 1)] + [("journal", number) for number in journals]

    def do(self, hall, machines, act, *items):
        act(*items)
        self.deliver_among(hall, machines)

    def lead(self, hall, machines, manager):
        """Campaign until the manager leads; the first refusals tell it the epoch that it must exceed."""
        for _ in range(2):
            if hall.running(("manager", manager)).role != "leading":
                self.do(hall, machines, hall.campaign, manager)
        self.assertEqual(hall.running(("manager", manager)).role, "leading")

    def hall(self):
        """Manager 0 leads, and all journals have one file."""
        hall = Hall(journals=3, managers=2, clients=2)
        everyone = hall.machines()
        self.do(hall, everyone, hall.campaign, 0)
        hall.ask(0, ("create", "/a"))
        self.do(hall, everyone, hall.send, 0, 0)
        self.assertEqual(hall.book.events()[-1], ("answered", 0, 1, ("made", 1)))
        return hall

    def check(self, hall):
        for numbers in itertools.combinations(hall.intact(), 2):
            log = recover([hall.disk(("journal", number)) for number in numbers], journals=3)
            self.assertEqual(audit(hall.book.events(), replay(log)), [])

    def test_0_3_a_manager_that_is_cut_off_tells_nothing_old(self):
        hall = self.hall()
        later = self.among(1, 1, 2)
        self.lead(hall, later, 1)
        hall.ask(1, ("append", "/a", "new"))
        self.do(hall, later, hall.send, 1, 1)
        self.assertEqual(hall.book.events()[-1], ("answered", 1, 1, ("written", 2, 1, 0)))
        # Manager 0 still leads by itself, and journal 0 still answers it.
        self.assertEqual(hall.running(("manager", 0)).role, "leading")
        hall.look(0, ("content", 1))
        self.do(hall, self.among(0, 0), hall.send, 0, 0)
        self.assertEqual(hall.book.events()[-1], ("looked", 0, 1, ("content", 1)))
        self.do(hall, hall.machines(), hall.resend, 0)
        self.assertEqual(hall.book.events()[-1], ("looked", 0, 1, ("content", 1)))
        self.assertEqual(hall.running(("manager", 0)).role, "idle")
        self.do(hall, hall.machines(), hall.send, 0, 1)
        self.assertEqual(hall.book.events()[-1], ("seen", 0, 1, 2, ("content", 1, 0, ((2, 1, 1, "new"),))))
        self.check(hall)

    def test_0_3_a_longer_log_of_an_older_epoch_does_not_win(self):
        hall = self.hall()
        for client in (0, 1):
            hall.ask(client, ("append", "/a", f"old {client}"))
            self.do(hall, self.among(0, 0), hall.send, client, 0)
        later = self.among(1, 1, 2)
        self.lead(hall, later, 1)
        self.do(hall, later, hall.send, 1, 1)
        self.assertEqual(hall.book.events()[-1], ("answered", 1, 1, ("written", 2, 1, 0)))
        self.assertEqual([hall.running(("journal", number)).log.length for number in range(3)], [3, 2, 2])
        hall.destroy(2)
        self.assertGreater(settle(hall), 0)
        told = [event[3] for event in hall.book.events() if event[0] == "answered"]
        self.assertEqual(told, [("made", 1), ("written", 2, 1, 0), ("written", 3, 1, 5)])
        self.check(hall)

    def test_0_3_a_log_that_one_journal_has_is_not_committed(self):
        hall = self.hall()
        hall.ask(0, ("append", "/a", "old"))
        self.do(hall, self.among(0, 0), hall.send, 0, 0)
        self.do(hall, self.among(1, 2), hall.campaign, 1)
        hall.campaign(1)
        # Journals 0 and 1 promise, but only journal 0 gets the log.
        promises = hall.network.numbers()
        for number in promises[:2]:
            hall.deliver(hall.deliver(number)[0])
        sync = hall.network.numbers()[-3]
        self.assertEqual(hall.network.message(sync)[2][0], "sync")
        hall.deliver(hall.deliver(sync)[0])
        self.assertEqual((hall.running(("manager", 1)).role, hall.running(("manager", 1)).commit), ("syncing", 0))
        self.do(hall, [], hall.send, 0, 1)
        # A manager that hears nothing of journal 0 begins without that record.
        hall.stop(("journal", 0))
        hall.stop(("manager", 0))
        hall.start(("manager", 0))
        self.lead(hall, self.among(0, 1, 2), 0)
        self.assertEqual(hall.running(("manager", 0)).commit, 1)
        hall.ask(1, ("append", "/a", "new"))
        self.do(hall, self.among(0, 1, 2), hall.send, 1, 0)
        self.assertEqual(hall.book.events()[-1], ("answered", 1, 1, ("written", 2, 1, 0)))
        settle(hall)
        self.assertEqual(hall.book.events()[-1], ("answered", 0, 2, ("written", 3, 1, 3)))
        self.check(hall)

    def test_0_3_a_request_that_two_managers_take_stands_once(self):
        hall = self.hall()
        hall.ask(0, ("append", "/a", "once"))
        self.do(hall, self.among(0, 0, 1), hall.send, 0, 0)
        for manager in (1, 0, 1):
            hall.send(0, manager)
            self.do(hall, hall.machines(), hall.campaign, manager)
            self.do(hall, hall.machines(), hall.send, 0, manager)
        settle(hall)
        self.assertEqual([event[:3] for event in hall.book.events()].count(("answered", 0, 2)), 1)
        for journal in range(3):
            space = replay(hall.running(("journal", journal)).log)
            self.assertEqual(space.query(("content", 1)), ("content", 1, 0, ((2, 0, 2, "once"),)))
        self.check(hall)

    def test_0_3_an_epoch_is_not_used_twice(self):
        """A manager whose disk lost power in a campaign has sent nothing of this epoch."""
        for fates in (0, 1, 2):
            hall = self.hall()
            hall.arm(("manager", 0), fates)
            self.assertEqual(hall.campaign(0), [])
            hall.start(("manager", 0))
            self.do(hall, hall.machines(), hall.campaign, 0)
            epoch = 6 if fates == 1 else 4
            self.assertEqual((hall.running(("manager", 0)).role, hall.running(("manager", 0)).epoch), ("leading", epoch))
            self.check(hall)


if __name__ == "__main__":
    unittest.main()

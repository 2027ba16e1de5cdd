import itertools
import unittest

from appendhall.client import Client
from appendhall.disk import Disk
from appendhall.errors import BadValue, Busy, PowerLoss
from appendhall.tape import Tape
from tests.draws import Draws
from tests.samples import MOST, SpyDisk, disk_state, nested, odd_things

DEED = ("append", "/notes", "x" * 200)
SHORT = ("create", "/notes")
QUERY = ("content", 1)
LONG_QUERY = ("find", "/" + "a" * 12, 5, -5)

NO_DEEDS = [
    (), (1,), ("",), ((),), (("a",),), ("a", ()), ("a", None), ("a", True), ("a", 1, 2, 3, 4), ("a", MOST + 1), ("a\x25",),
    ("a", "\n"), ("x" * 201,), "create /a", 5, ["create", "/a"], ("a", ["b"]), nested(5),
]


def state(client):
    return client.number, client.serial, client.deed, client.rid, client.request(), client.read()


def entries(disk):
    """What a new client would find on the tape, the pending writes left out."""
    other = disk.clone()
    other.lose_power(0)
    return Tape(other).entries()


def filled_client(disk, number=4):
    """A client with one answered request, one that is open, and a look."""
    client = Client(number, disk)
    client.ask(SHORT)
    client.handle(("answer", 1, ("made", 1)))
    client.ask(DEED)
    client.look(QUERY)
    return client


class AskTest(unittest.TestCase):
    def test_the_example(self):
        disk = Disk()
        client = Client(4, disk)
        self.assertEqual(client.ask(("create", "/notes")), 1)
        again = Client(4, disk)
        self.assertEqual(again.request(), ("request", 1, ("create", "/notes")))
        self.assertEqual(again.handle(("answer", 1, ("made", 1))), ("answered", 1, ("made", 1)))
        self.assertIsNone(again.handle(("answer", 1, ("made", 1))))

    def test_7_7_a_new_client(self):
        for number in (0, 1, 4, MOST):
            disk = SpyDisk()
            self.assertEqual(state(Client(number, disk)), (number, 0, None, 0, None, None))
            self.assertEqual(disk.done, [])

    def test_7_8_asking(self):
        for deed in (DEED, SHORT, ("fly",), ("a", -MOST, MOST, ""), ("x", "", 0)):
            client = Client(4, Disk())
            for serial in range(1, 5):
                self.assertEqual(client.ask(deed), serial)
                self.assertEqual(state(client), (4, serial, deed, 0, ("request", serial, deed), None))
                client.handle(("answer", serial, ("skipped",)))
                self.assertEqual(state(client), (4, serial, None, 0, None, None))

    def test_7_8_what_is_no_deed(self):
        for busy in (False, True):
            disk = SpyDisk()
            client = Client(4, disk)
            if busy:
                client.ask(DEED)
            client.look(QUERY)
            before, stored = state(client), disk_state(disk)
            for thing in NO_DEEDS + odd_things():
                with self.assertRaises(BadValue):
                    client.ask(thing)
            self.assertEqual((state(client), disk_state(disk)), (before, stored))

    def test_7_8_busy(self):
        disk = SpyDisk()
        client = Client(4, disk)
        client.ask(DEED)
        before, done = state(client), list(disk.done)
        for deed in (DEED, SHORT):
            with self.assertRaises(Busy):
                client.ask(deed)
        self.assertEqual((state(client), disk.done), (before, done))
        client.handle(("answer", 1, ("made", 1)))
        self.assertEqual(client.ask(SHORT), 2)

    def test_7_8_one_entry_and_one_sync(self):
        disk = SpyDisk()
        client = Client(4, disk)
        for serial in (1, 2):
            disk.done.clear()
            client.ask(SHORT)
            self.assertEqual([done == "sync" for done in disk.done], [False, False, True])
            self.assertEqual(entries(disk)[-1], ("ask", serial, SHORT))
            client.handle(("answer", serial, ("made", 1)))

    def test_7_8_a_request_may_be_told_again_and_again(self):
        client = filled_client(Disk())
        for _ in range(3):
            self.assertEqual(client.request(), ("request", 2, DEED))
            self.assertEqual(client.read(), ("read", 1, QUERY))

    def test_0_4_two_clients_have_no_effect_on_each_other(self):
        one, other = Client(1, Disk()), Client(1, Disk())
        one.ask(DEED)
        one.look(QUERY)
        self.assertEqual(state(other), (1, 0, None, 0, None, None))
        self.assertIsNone(other.handle(("answer", 1, ("made", 1))))


class LookTest(unittest.TestCase):
    def test_7_9_looking(self):
        for busy in (False, True):
            client = Client(4, Disk())
            if busy:
                client.ask(DEED)
            request = client.request()
            for rid, query in enumerate((QUERY, LONG_QUERY, ("fly",), QUERY), 1):
                self.assertEqual(client.look(query), rid)
                self.assertEqual((client.rid, client.read()), (rid, ("read", rid, query)))
                self.assertEqual(client.request(), request)

    def test_7_9_what_has_not_the_form_of_a_deed(self):
        disk = SpyDisk()
        client = filled_client(disk)
        before, stored = state(client), disk_state(disk)
        for thing in NO_DEEDS + odd_things():
            with self.assertRaises(BadValue):
                client.look(thing)
        self.assertEqual((state(client), disk_state(disk)), (before, stored))

    def test_7_9_a_look_takes_the_place_of_an_earlier_one(self):
        client = Client(4, Disk())
        client.look(QUERY)
        client.look(("find", "/"))
        self.assertIsNone(client.handle(("value", 1, 5, ("refused", "kind"))))
        self.assertEqual(client.read(), ("read", 2, ("find", "/")))
        self.assertEqual(client.handle(("value", 2, 5, ("refused", "kind"))), ("seen", 2, 5, ("refused", "kind")))
        self.assertIsNone(client.handle(("value", 1, 5, ("refused", "kind"))))
        self.assertIsNone(client.read())

    def test_7_9_the_query_is_not_on_the_tape(self):
        disk = SpyDisk()
        client = Client(4, disk)
        for rid in (1, 2):
            disk.done.clear()
            client.look(LONG_QUERY)
            self.assertEqual([done == "sync" for done in disk.done], [False, True])
            self.assertEqual(entries(disk), [("look", number) for number in range(1, rid + 1)])


class HandleTest(unittest.TestCase):
    def test_7_10_answers_of_all_kinds(self):
        for told in (("made", 1), ("written", 3, 1, 0), ("skipped",), (), 5, "", nested(12), None):
            client = Client(4, Disk())
            client.ask(SHORT)
            self.assertEqual(client.handle(("answer", 1, told)), ("answered", 1, told))
            self.assertEqual(state(client), (4, 1, None, 0, None, None))
            client.look(QUERY)
            for number in (0, 1, MOST, -1, "x"):
                self.assertEqual(client.handle(("value", client.rid, number, told)), ("seen", client.rid, number, told))
                self.assertIsNone(client.read())
                client.look(QUERY)

    def test_7_10_one_entry_and_one_sync_for_an_answer_and_nothing_for_a_value(self):
        disk = SpyDisk()
        client = filled_client(disk)
        disk.done.clear()
        client.handle(("value", 1, 5, ("refused", "kind")))
        self.assertEqual(disk.done, [])
        client.handle(("answer", 2, ("written", 2, 1, 0)))
        self.assertEqual([done == "sync" for done in disk.done], [False, True])
        self.assertEqual(entries(disk)[-1], ("done", 2))

    def test_7_10_what_changes_nothing(self):
        bodies = [
            ("answer", 1, ("made", 1)), ("answer", 3, ("made", 1)), ("answer", 0, 5), ("answer", -2, 5), ("answer", MOST, 5),
            ("answer", "2", 5), ("answer", (2,), 5), ("answer", None, 5), ("answer", 2.0, 5), ("answer", 2),
            ("answer", 2, 5, 6), ("answer",), ("answer", 2, 5, 6, 7), ("Answer", 2, 5), ("answered", 2, 5), ("", 2, 5),
            ("value", 0, 5, 6), ("value", 2, 5, 6), ("value", 3, 5, 6), ("value", -1, 5, 6), ("value", True, 5, 6),
            ("value", 1, 5), ("value", 1, 5, 6, 7), ("value", 1), ("value",), ("values", 1, 5, 6), ("value", "1", 5, 6),
            ("value", 1.0, 5, 6), ("value", (1,), 5, 6), ("value", None, 5, 6), ("seen", 1, 5, 6),
            ("request", 2, DEED), ("read", 1, QUERY), ("promise", 2), ("synced", 2, 2),
        ]
        disk = SpyDisk()
        client = filled_client(disk)
        before = state(client)
        disk.done.clear()
        for body in bodies:
            with self.subTest(body=body):
                self.assertIsNone(client.handle(body))
                self.assertEqual((state(client), disk.done), (before, []))

    def test_7_10_true_in_the_place_of_1(self):
        client = Client(4, Disk())
        client.ask(SHORT)
        client.look(QUERY)
        before = state(client)
        self.assertIsNone(client.handle(("answer", True, 5)))
        self.assertIsNone(client.handle(("value", True, 5, 6)))
        self.assertEqual(state(client), before)

    def test_7_10_when_nothing_is_open(self):
        disk = SpyDisk()
        client = filled_client(disk)
        client.handle(("answer", 2, ("made", 1)))
        client.handle(("value", 1, 5, 6))
        before = state(client)
        disk.done.clear()
        for number in (0, 1, 2, 3):
            self.assertIsNone(client.handle(("answer", number, 5)))
            self.assertIsNone(client.handle(("value", number, 5, 6)))
        self.assertEqual((state(client), disk.done), (before, []))
        fresh = Client(4, Disk())
        self.assertIsNone(fresh.handle(("answer", 0, 5)))
        self.assertIsNone(fresh.handle(("value", 0, 5, 6)))


class AgainTest(unittest.TestCase):
    """Points 7.11 and 7.12."""

    STEPS = [
        ("ask", SHORT), ("look", QUERY), ("answer", 1), ("value", 1), ("look", LONG_QUERY), ("ask", DEED), ("look", QUERY),
        ("value", 3), ("answer", 2), ("ask", ("fly",)), ("answer", 2), ("value", 2), ("answer", 3), ("look", ("fly",)),
    ]

    def do(self, client, step):
        word, item = step
        if word == "ask":
            client.ask(item)
        elif word == "look":
            client.look(item)
        elif word == "answer":
            client.handle((word, item, ("made", 1)))
        else:
            client.handle((word, item, 7, ("made", 1)))

    def wanted_entries(self, steps):
        """What stands on the tape, as the steps tell."""
        found, open_serial, serial, rid = [], None, 0, 0
        for word, item in steps:
            if word == "ask":
                serial += 1
                open_serial = serial
                found.append(("ask", serial, item))
            elif word == "look":
                rid += 1
                found.append(("look", rid))
            elif word == "answer" and item == open_serial:
                open_serial = None
                found.append(("done", item))
        return found

    def test_7_11_the_tape_after_each_call(self):
        disk = Disk()
        client = Client(4, disk)
        for count, step in enumerate(self.STEPS, 1):
            self.do(client, step)
            self.assertEqual(disk.pending, 0)
            self.assertEqual(entries(disk), self.wanted_entries(self.STEPS[:count]))

    def test_7_12_a_client_that_is_created_again_after_each_call(self):
        for times in (1, 2, 3):
            disk = SpyDisk()
            client = Client(4, disk)
            for step in self.STEPS:
                self.do(client, step)
                before = state(client)
                for _ in range(times):
                    disk.done.clear()
                    client = Client(4, disk)
                    self.assertEqual(disk.done, [])
                    self.assertEqual(state(client), before[:5] + (None,))

    def test_7_12_no_look_is_open_and_its_value_is_not_taken(self):
        disk = Disk()
        filled_client(disk)
        again = Client(4, disk)
        self.assertIsNone(again.read())
        self.assertIsNone(again.handle(("value", 1, 5, 6)))
        self.assertEqual(again.look(QUERY), 2)
        self.assertIsNone(again.handle(("value", 1, 5, 6)))
        self.assertEqual(again.handle(("value", 2, 5, 6)), ("seen", 2, 5, 6))

    def test_7_12_a_done_entry_of_an_earlier_request_does_not_close_a_later_one(self):
        disk = Disk()
        filled_client(disk)
        self.assertEqual(Client(4, disk).request(), ("request", 2, DEED))


class PowerLossTest(unittest.TestCase):
    """Point 7.13: each sync of each call and of each creation, with each fate of each pending block."""

    def calls(self):
        return [
            ("ask", lambda client: client.ask(DEED)), ("ask", lambda client: client.ask(SHORT)),
            ("look", lambda client: client.look(LONG_QUERY)), ("answer", lambda client: client.handle(("answer", 1, 5))),
        ]

    def prepared(self, word):
        disk = Disk()
        client = Client(4, disk)
        client.ask(SHORT)
        if word == "ask":
            client.handle(("answer", 1, ("made", 1)))
        return disk, client

    def blocks_of(self, word, call):
        spy = SpyDisk()
        client = Client(4, spy)
        client.ask(SHORT)
        if word == "ask":
            client.handle(("answer", 1, ("made", 1)))
        spy.done.clear()
        call(client)
        self.assertEqual(spy.done.count("sync"), 1)
        return len(spy.done) - 1

    def test_7_13_each_fate_of_each_block(self):
        for word, call in self.calls():
            blocks = self.blocks_of(word, call)
            disk, client = self.prepared(word)
            before = state(client)
            call(client)
            behind = state(client)[:5] + (None,)
            self.assertNotEqual(before, behind)
            for fates in range(3 ** blocks):
                disk, client = self.prepared(word)
                disk.arm(fates)
                with self.assertRaises(PowerLoss):
                    call(client)
                whole = fates == (3 ** blocks - 1) // 2
                self.check_again(disk, behind if whole else before)

    def check_again(self, disk, wanted):
        """Let the mending lose power, too, before a client is created without a loss."""
        for fates in range(9):
            other = disk.clone()
            other.arm(fates)
            try:
                Client(4, other)
            except PowerLoss:
                pass
            other.disarm()
            for _ in range(2):
                self.assertEqual(state(Client(4, other)), wanted)

    def test_7_13_a_call_that_makes_no_sync_loses_no_power(self):
        disk = Disk()
        client = filled_client(disk)
        disk.arm(0)
        client.handle(("value", 1, 5, 6))
        client.handle(("answer", 1, 5))
        with self.assertRaises(BadValue):
            client.ask(5)
        with self.assertRaises(Busy):
            client.ask(SHORT)
        self.assertTrue(disk.armed)
        self.assertEqual(state(Client(4, disk))[:5], state(client)[:5])

    def test_7_14_rows_of_calls_with_losses(self):
        for seed in range(60):
            self.check_row(Draws(seed))

    def check_row(self, draws):
        disk = Disk()
        client = Client(4, disk)
        opened, answered, looks = {}, {}, []
        for step in range(80):
            if draws.chance(40):
                disk.arm(draws.randrange(3 ** 6), after=draws.randrange(3))
            was_open = client.request()
            try:
                word = draws.choice(("ask", "look", "answer", "answer", "create"))
                if word == "ask" and was_open is None:
                    client.ask(("append", "/a", f"{step}"))
                elif word == "look":
                    client.look(("find", f"{step}"))
                elif word == "answer":
                    told = client.handle(("answer", draws.randrange(client.serial + 2), ("made", step)))
                    if told is not None:
                        self.assertNotIn(told[1], answered)
                        answered[told[1]] = step
                elif word == "create":
                    client = Client(4, disk)
            except PowerLoss:
                client = self.created(disk)
            self.check_opened(client, opened, answered)
            if client.read() is not None:
                looks.append(client.read())
        self.assertEqual(len(set(rid for _, rid, _ in looks)), len(set(looks)))

    def created(self, disk):
        while True:
            try:
                return Client(4, disk)
            except PowerLoss:
                pass

    def check_opened(self, client, opened, answered):
        """No serial is used twice, and no request is open again behind its answer."""
        if client.request() is not None:
            _, serial, deed = client.request()
            self.assertEqual(opened.setdefault(serial, deed), deed)
            self.assertNotIn(serial, answered)
        for serial in opened:
            self.assertLessEqual(serial, client.serial)


if __name__ == "__main__":
    unittest.main()

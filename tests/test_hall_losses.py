"""Power losses in a hall, arming and disarming, and the book: points 9.4 and 9.6."""

import unittest

from appendhall.errors import BadValue
from appendhall.hall import Hall
from tests.halls import deliver_all, hall_state, led, machine_state, prepared
from tests.samples import FAR

CREATE = ("create", "/a")
APPEND = ("append", "/a", "x")
FIND = ("find", "/")


def asked(hall):
    hall.ask(0, CREATE)
    return hall


def before_promise():
    return prepared([("campaign", 0)]), 1


def before_sync():
    hall = prepared([("campaign", 0), ("deliver", 1), ("deliver", 2), ("deliver", 4), ("deliver", 5)])
    return hall, 6


def before_edit():
    hall = asked(led())
    number = hall.send(0, 0)[0]
    return hall, hall.deliver(number)[0]


def before_purge():
    hall = led([CREATE, APPEND])
    return hall, hall.checkpoint(0)[0]


def before_answer():
    hall = asked(led())
    edits = hall.deliver(hall.send(0, 0)[0])
    synced = [hall.deliver(number)[0] for number in edits]
    hall.deliver(synced[0])
    return hall, hall.deliver(synced[1])[0]


def with_deliver(before):
    """A way to make a hall and a deed in it that delivers a message."""
    def made():
        hall, number = before()
        return hall, lambda: hall.deliver(number)
    return made


def ask_in_new():
    hall = led()
    return hall, lambda: hall.ask(0, CREATE)


def look_in_new():
    hall = led()
    return hall, lambda: hall.look(0, FIND)


def campaign_in_new():
    hall = Hall()
    return hall, lambda: hall.campaign(0)


def campaign_in_led():
    hall = led([CREATE])
    return hall, lambda: hall.campaign(0)


# The deed, the machine whose disk is written, how many syncs there are, and the events that stand in the book anyway.
DEEDS = [
    ("ask", ask_in_new, ("client", 0), 1, [("asked", 0, 1, CREATE)]),
    ("look", look_in_new, ("client", 0), 1, [("looked", 0, 1, FIND)]),
    ("campaign", campaign_in_new, ("manager", 0), 1, []),
    ("campaign again", campaign_in_led, ("manager", 0), 1, []),
    ("promise", with_deliver(before_promise), ("journal", 0), 1, []),
    ("sync", with_deliver(before_sync), ("journal", 0), 2, []),
    ("edit", with_deliver(before_edit), ("journal", 0), 1, []),
    ("purge", with_deliver(before_purge), ("journal", 0), 2, []),
    ("answer", with_deliver(before_answer), ("client", 0), 1, []),
]

# More than there are for any count of blocks that are pending in these deeds.
FATES = list(range(3 ** 4)) + [(3 ** 12 - 1) // 2, 3 ** 12 - 1]


class DeedsTest(unittest.TestCase):
    def test_9_4_each_sync_of_each_deed_with_each_fate(self):
        for name, make, machine, syncs, events in DEEDS:
            for after in range(syncs):
                found = {self.check_loss(make, machine, after, fates, events) for fates in FATES}
                with self.subTest(deed=name, after=after):
                    self.assertIn("before", found)
                    if after == syncs - 1:
                        self.assertEqual(found, {"before", "behind"})

    def check_loss(self, make, machine, after, fates, events):
        hall, act = make()
        book, messages = hall.book.events(), [hall.network.message(number) for number in hall.network]
        sent, others = hall.network.sent, hall_state(hall, [machine])[5]
        hall.arm(machine, fates, after=after)
        self.assertEqual(act(), [])
        self.assertIs(hall.is_up(machine), False)
        self.assertEqual(hall.book.events(), book + events)
        self.assertEqual([hall.network.message(number) for number in hall.network], messages)
        self.assertEqual((hall.network.sent, hall_state(hall, [machine])[5]), (sent, others))
        disk = hall.disk(machine)
        self.assertEqual((disk.armed, disk.pending), (False, 0))
        return self.restarted(hall, make, machine)

    def restarted(self, hall, make, machine):
        """Start the machine that has lost power, and tell how it is then."""
        self.assertEqual(hall.start(machine), [])
        self.assertIs(hall.is_up(machine), True)
        found = machine_state(hall, machine)[0]
        other, act = make()
        wanted = {"before": self.state_of_new(other, machine)}
        act()
        wanted["behind"] = self.state_of_new(other, machine)
        names = [name for name in wanted if wanted[name] == found]
        self.assertEqual(len(names), 1)
        return names[0]

    def state_of_new(self, hall, machine):
        hall.stop(machine)
        hall.start(machine)
        return machine_state(hall, machine)[0]

    def test_9_4_a_count_beyond_the_syncs_of_the_deed(self):
        for name, make, machine, syncs, events in DEEDS:
            hall, act = make()
            other, other_act = make()
            hall.arm(machine, 0, after=syncs)
            numbers = act()
            with self.subTest(deed=name):
                self.assertEqual(numbers, other_act())
                self.assertIs(hall.is_up(machine), True)
                self.assertIs(hall.disk(machine).armed, True)
                hall.disarm(machine)
                self.assertEqual(hall_state(hall), hall_state(other))

    def test_9_4_deeds_that_sync_nothing_lose_no_power(self):
        hall = led([CREATE, APPEND])
        hall.look(0, FIND)
        pings = hall.deliver(hall.send(0, 0)[0])
        for machine in hall.machines():
            hall.arm(machine, 0)
        pongs = [hall.deliver(number)[0] for number in pings]
        values = [number for pong in pongs for number in hall.deliver(pong)]
        hall.deliver(values[0])
        hall.resend(0)
        hall.checkpoint(0)
        for machine in hall.machines():
            self.assertIs(hall.is_up(machine), True)
            self.assertIs(hall.disk(machine).armed, True)
        self.assertEqual(hall.book.events()[-1], ("seen", 0, 1, 2, ("node", 0, 0, 1)))

    def test_9_4_what_was_not_sent_can_be_had_again(self):
        hall, number = before_promise()
        hall.arm(("journal", 0), 1)
        self.assertEqual(hall.deliver(number), [])
        hall.start(("journal", 0))
        self.assertEqual(len(hall.deliver(number)), 1)


class StartTest(unittest.TestCase):
    def torn(self, kind):
        """A hall in which a machine is down and its disk is to be mended."""
        hall = Hall()
        machine = (kind, 0)
        if kind == "journal":
            hall.campaign(0)
        hall.arm(machine, 2)
        if kind == "journal":
            hall.deliver(1)
        elif kind == "manager":
            hall.campaign(0)
        else:
            hall.ask(0, CREATE)
        return hall, machine

    def test_9_4_while_a_machine_is_started(self):
        for kind in ("journal", "manager", "client"):
            for fates in range(9):
                hall, machine = self.torn(kind)
                self.assertIs(hall.is_up(machine), False)
                before = hall_state(hall, [machine])
                hall.arm(machine, fates)
                self.assertEqual(hall.start(machine), [])
                self.assertIs(hall.is_up(machine), False)
                self.assertIs(hall.disk(machine).armed, False)
                self.assertEqual(hall_state(hall, [machine]), before)
                self.assertEqual(hall.start(machine), [])
                self.assertIs(hall.is_up(machine), True)
                self.assertEqual(hall_state(hall, [machine]), before)

    def test_9_4_a_later_sync_of_a_machine_that_mends_its_disk(self):
        hall, machine = self.torn("client")
        hall.arm(machine, 0, after=1)
        hall.start(machine)
        self.assertIs(hall.is_up(machine), True)
        self.assertEqual(hall.ask(0, CREATE), [])
        self.assertIs(hall.is_up(machine), False)


class ArmTest(unittest.TestCase):
    def test_9_4_machines_that_are_up_and_down_over_a_stop_and_a_start(self):
        for kind in ("journal", "manager", "client"):
            for order in ("arm stop start", "stop arm start", "stop start arm", "arm stop start stop start"):
                hall = Hall()
                machine = (kind, 0)
                for word in order.split(" "):
                    if word == "arm":
                        self.assertEqual(hall.arm(machine, 0), [])
                    elif word == "stop":
                        hall.stop(machine)
                    else:
                        hall.start(machine)
                self.assertIs(hall.is_up(machine), True)
                hall.campaign(0)
                if kind == "journal":
                    hall.deliver(1)
                if kind == "client":
                    hall.ask(0, CREATE)
                self.assertIs(hall.is_up(machine), False)

    def test_9_4_disarming(self):
        for down in (False, True):
            hall = Hall()
            machine = ("client", 0)
            hall.arm(machine, 0)
            if down:
                hall.stop(machine)
            self.assertEqual(hall.disarm(machine), [])
            self.assertIs(hall.disk(machine).armed, False)
            hall.start(machine)
            hall.ask(0, CREATE)
            self.assertIs(hall.is_up(machine), True)

    def test_9_4_arming_again(self):
        hall = Hall()
        machine = ("client", 0)
        hall.arm(machine, 0)
        hall.arm(machine, (3 ** 12 - 1) // 2, after=1)
        hall.ask(0, CREATE)
        self.assertIs(hall.is_up(machine), True)
        hall.look(0, FIND)
        self.assertIs(hall.is_up(machine), False)
        hall.start(machine)
        self.assertEqual(hall.running(machine).rid, 1)

    def test_9_4_large_fates_and_counts(self):
        hall = Hall()
        hall.arm(("client", 0), FAR, after=FAR)
        hall.ask(0, CREATE)
        self.assertIs(hall.is_up(("client", 0)), True)

    def test_9_5_fates_and_counts_that_a_disk_does_not_take(self):
        hall = Hall()
        hall.arm(("client", 0), 4, after=2)
        before = hall_state(hall)
        for thing in (-1, -FAR, True, False, None, 1.0, "1", (), []):
            for machine in hall.machines():
                with self.assertRaises(BadValue):
                    hall.arm(machine, thing)
                with self.assertRaises(BadValue):
                    hall.arm(machine, 0, after=thing)
        self.assertEqual(hall_state(hall), before)

    def test_9_4_each_machine_has_a_disk_of_its_own(self):
        hall = Hall()
        hall.arm(("manager", 0), 0)
        hall.campaign(1)
        hall.ask(0, CREATE)
        hall.deliver(1)
        self.assertEqual([machine for machine in hall.machines() if not hall.is_up(machine)], [])
        hall.campaign(0)
        self.assertEqual([machine for machine in hall.machines() if not hall.is_up(machine)], [("manager", 0)])


class BookTest(unittest.TestCase):
    def test_9_6_the_four_kinds_of_events(self):
        hall = led(clients=3)
        hall.ask(2, CREATE)
        events = [("asked", 2, 1, CREATE)]
        self.assertEqual(hall.book.events(), events)
        hall.look(1, ("content", 1))
        events.append(("looked", 1, 1, ("content", 1)))
        self.assertEqual(hall.book.events(), events)
        hall.send(2, 0)
        self.assertEqual(hall.book.events(), events)
        deliver_all(hall)
        events.append(("answered", 2, 1, ("made", 1)))
        self.assertEqual(hall.book.events(), events)
        hall.send(1, 0)
        deliver_all(hall)
        events.append(("seen", 1, 1, 1, ("content", 1, 0, ())))
        self.assertEqual(hall.book.events(), events)
        self.assertEqual([type(event) for event in hall.book.events()], [tuple] * 4)

    def test_9_6_an_answer_counts_once(self):
        hall, number = before_answer()
        for _ in range(3):
            hall.deliver(number)
        self.assertEqual(hall.book.events(), [("asked", 0, 1, CREATE), ("answered", 0, 1, ("made", 1))])

    def test_9_6_a_look_that_took_the_place_of_another_one(self):
        hall = led()
        hall.look(0, FIND)
        hall.send(0, 0)
        hall.look(0, ("find", "/a"))
        deliver_all(hall)
        self.assertEqual(hall.book.events(), [("looked", 0, 1, FIND), ("looked", 0, 2, ("find", "/a"))])

    def test_9_6_deeds_that_are_not_possible_leave_no_event(self):
        hall = Hall()
        hall.ask(0, CREATE)
        hall.stop(("client", 1))
        for client, deed in ((0, CREATE), (0, ()), (1, CREATE), (1, ()), (2, CREATE), (-1, ())):
            for act in (hall.ask, hall.look):
                if client == 0 and deed == CREATE and act == hall.look:
                    continue
                with self.assertRaises(ValueError):
                    act(client, deed)
        self.assertEqual(hall.book.events(), [("asked", 0, 1, CREATE)])

    def test_9_6_two_events_asked_with_the_same_serial(self):
        hall = led()
        hall.arm(("client", 0), 0)
        hall.ask(0, CREATE)
        hall.start(("client", 0))
        self.assertEqual(hall.running(("client", 0)).serial, 0)
        hall.ask(0, ("mkdir", "/d"))
        hall.send(0, 0)
        deliver_all(hall)
        events = [("asked", 0, 1, CREATE), ("asked", 0, 1, ("mkdir", "/d")), ("answered", 0, 1, ("made", 1))]
        self.assertEqual(hall.book.events(), events)

    def test_9_6_two_events_looked_with_the_same_rid(self):
        hall = led()
        hall.arm(("client", 0), 2)
        hall.look(0, FIND)
        hall.start(("client", 0))
        hall.look(0, ("find", "/a"))
        self.assertEqual(hall.book.events(), [("looked", 0, 1, FIND), ("looked", 0, 1, ("find", "/a"))])

    def test_9_6_no_event_for_an_answer_that_was_lost(self):
        for fates in (0, 1, 2):
            hall, number = before_answer()
            hall.arm(("client", 0), fates)
            hall.deliver(number)
            self.assertEqual(hall.book.events(), [("asked", 0, 1, CREATE)])
            hall.start(("client", 0))
            hall.deliver(number)
            # If the entry was stored, the request is not open any more, and no answer is taken for it.
            events = [] if fates == 1 else [("answered", 0, 1, ("made", 1))]
            self.assertEqual(hall.book.events(), [("asked", 0, 1, CREATE)] + events)

    def test_0_4_a_returned_list_is_new(self):
        hall = asked(Hall())
        hall.book.events().clear()
        self.assertEqual((hall.book.events(), len(hall.book)), ([("asked", 0, 1, CREATE)], 1))


if __name__ == "__main__":
    unittest.main()

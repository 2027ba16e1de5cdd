"""Halls as they are made and looked at, what each deed does, and which error comes first: points 9.1 to 9.5."""

import unittest

from appendhall.book import Book
from appendhall.client import Client
from appendhall.disk import Disk
from appendhall.errors import BadValue, Busy, Destroyed, HallError, MachineDown, TooFew, Unknown
from appendhall.hall import Hall
from appendhall.journal import Journal
from appendhall.manager import Manager
from appendhall.messages import is_message
from appendhall.network import Network
from tests.halls import deliver_all, hall_state, led, machines_of, prepared
from tests.samples import FAR, MOST, odd_things

CREATE = ("create", "/a")
APPEND = ("append", "/a", "x")
FIND = ("find", "/")
KINDS = ("journal", "manager", "client")


def no_machines(counts):
    found = [(kind, number) for kind in KINDS for number in (-1, counts[kind], counts[kind] + 1, 100, MOST, FAR, -FAR)]
    return found + [("", 0), ("Journal", 0), ("machine", 0), ("journals", 0), ("x", -1)]


class NewHallTest(unittest.TestCase):
    def test_9_1_a_hall_without_arguments(self):
        hall = Hall()
        self.assertEqual(hall.counts, {"journal": 3, "manager": 2, "client": 2})
        self.assertEqual(list(hall.counts), list(KINDS))
        self.assertIs(type(hall.book), Book)
        self.assertIs(type(hall.network), Network)

    def test_9_1_the_least_and_the_greatest_counts(self):
        for journals in range(1, 8):
            for managers in range(1, 5):
                for clients in range(1, 5):
                    hall = Hall(journals=journals, managers=managers, clients=clients)
                    counts = {"journal": journals, "manager": managers, "client": clients}
                    self.assertEqual(hall.counts, counts)
                    self.assertEqual(list(hall.counts), list(KINDS))
                    self.assertEqual(hall.machines(), machines_of(counts))
                    self.assertEqual(hall.intact(), list(range(journals)))

    def test_9_1_other_counts(self):
        most = {"journals": 7, "managers": 4, "clients": 4}
        for name, greatest in most.items():
            things = [0, -1, greatest + 1, greatest + 2, 100, MOST, FAR, -FAR, "1", "", (1,), True, False, *odd_things()]
            for thing in things:
                with self.assertRaises(BadValue):
                    Hall(**{name: thing})
            for good in (1, greatest):
                self.assertEqual(Hall(**{name: good}).counts[name[:-1]], good)

    def test_9_1_at_first(self):
        hall = Hall(journals=2, managers=3, clients=1)
        self.assertEqual((hall.network.sent, len(hall.network), len(hall.book)), (0, 0, 0))
        for machine in hall.machines():
            kind, number = machine
            self.assertIs(hall.is_up(machine), True)
            self.assertEqual((hall.disk(machine).stored(), hall.disk(machine).pending), ([], 0))
            self.assertIs(type(hall.disk(machine)), Disk)
            thing = hall.running(machine)
            self.assertIs(type(thing), {"journal": Journal, "manager": Manager, "client": Client}[kind])
            self.assertEqual(thing.number, number)
        manager = hall.running(("manager", 2))
        self.assertEqual((manager.managers, manager.journals), (3, 2))

    def test_0_4_two_halls_have_no_effect_on_each_other(self):
        one, other = Hall(), Hall()
        before = hall_state(other)
        one.campaign(0)
        deliver_all(one)
        one.ask(0, CREATE)
        one.stop(("manager", 0))
        one.destroy(2)
        one.arm(("client", 1), 0)
        self.assertEqual(hall_state(other), before)

    def test_0_4_the_lists_are_new(self):
        hall = Hall()
        machines, intact = hall.machines(), hall.intact()
        hall.machines().clear()
        hall.intact().append(9)
        self.assertEqual((hall.machines(), hall.intact()), (machines, intact))
        hall.destroy(1)
        self.assertEqual((hall.machines(), hall.intact()), (machines, [0, 2]))
        self.assertEqual((len(machines), intact), (7, [0, 1, 2]))
        for act in (lambda: hall.campaign(0), lambda: hall.resend(0), lambda: hall.stop(("client", 1))):
            act().append("more")
            self.assertNotIn("more", act())


class LookTest(unittest.TestCase):
    def test_9_1_machines_that_are_up_down_and_destroyed(self):
        hall = Hall()
        hall.destroy(1)
        hall.stop(("journal", 2))
        hall.stop(("manager", 0))
        hall.stop(("client", 1))
        down = [("journal", 2), ("manager", 0), ("client", 1)]
        for machine in hall.machines():
            up = machine not in down + [("journal", 1)]
            self.assertIs(hall.is_up(machine), up)
            if up:
                self.assertEqual(hall.running(machine).number, machine[1])
        for machine in down:
            with self.assertRaises(MachineDown):
                hall.running(machine)
            self.assertIs(type(hall.disk(machine)), Disk)
        for look in (hall.running, hall.disk):
            with self.assertRaises(Destroyed):
                look(("journal", 1))

    def test_9_5_unknown_machines(self):
        hall = Hall()
        before = hall_state(hall)
        for machine in no_machines(hall.counts):
            for look in (hall.is_up, hall.running, hall.disk, hall.stop, hall.start, hall.disarm,
                         lambda thing: hall.arm(thing, 0)):
                with self.assertRaises(Unknown):
                    look(machine)
        self.assertEqual(hall_state(hall), before)

    def test_9_1_what_is_done_with_a_returned_disk_has_no_effect(self):
        hall = led([CREATE])
        before = hall_state(hall)
        for machine in hall.machines():
            disk = hall.disk(machine)
            disk.write(2, ("other",))
            disk.sync()
            disk.write(3, ("more",))
            disk.arm(5)
            self.assertIsNot(hall.disk(machine), hall.disk(machine))
        self.assertEqual(hall_state(hall), before)
        for machine in hall.machines():
            hall.stop(machine)
            hall.start(machine)
        self.assertEqual(hall.running(("journal", 0)).log.length, 1)

    def test_2_8_a_returned_disk_is_armed_like_the_one_of_the_machine(self):
        hall = Hall()
        hall.arm(("client", 0), 5, after=2)
        self.assertIs(hall.disk(("client", 0)).armed, True)
        hall.disk(("client", 0)).disarm()
        self.assertIs(hall.disk(("client", 0)).armed, True)

    def test_9_1_looking_changes_nothing(self):
        hall = led([CREATE])
        before = hall_state(hall)
        for machine in hall.machines():
            hall.is_up(machine)
            hall.running(machine)
            hall.disk(machine)
        self.assertEqual(hall_state(hall), before)


class StopTest(unittest.TestCase):
    def test_9_3_once_and_twice(self):
        for kind in KINDS:
            hall = led([CREATE, APPEND])
            hall.ask(1, APPEND)
            machine = (kind, 1)
            thing = hall.running(machine)
            stored = hall.disk(machine).stored()
            wanted = hall_state(hall, [machine])
            for _ in range(2):
                self.assertEqual(hall.stop(machine), [])
                self.assertIs(hall.is_up(machine), False)
                self.assertEqual(hall.disk(machine).stored(), stored)
            self.assertEqual(hall.start(machine), [])
            again = hall.running(machine)
            self.assertIsNot(again, thing)
            self.assertEqual(hall.start(machine), [])
            self.assertIs(hall.running(machine), again)
            self.assertEqual(hall.disk(machine).stored(), stored)
            self.assertEqual(hall_state(hall, [machine]), wanted)

    def test_9_3_a_new_object_is_made_from_the_disk(self):
        hall = led([CREATE, APPEND])
        hall.ask(0, APPEND)
        hall.look(0, FIND)
        for machine in (("journal", 0), ("manager", 0), ("client", 0)):
            hall.stop(machine)
            hall.start(machine)
        journal, manager, client = [hall.running((kind, 0)) for kind in KINDS]
        self.assertEqual((journal.promise, journal.epoch, journal.log.length), (2, 2, 2))
        self.assertEqual((manager.role, manager.epoch, manager.seen, manager.log), ("idle", 2, 2, None))
        self.assertEqual((manager.managers, manager.journals), (2, 3))
        self.assertEqual((client.serial, client.rid, client.request(), client.read()),
                         (3, 1, ("request", 3, APPEND), None))

    def test_9_3_starting_a_machine_that_is_up_does_nothing(self):
        hall = led([CREATE])
        before = hall_state(hall)
        things = [hall.running(machine) for machine in hall.machines()]
        for machine in hall.machines():
            self.assertEqual(hall.start(machine), [])
        self.assertEqual(hall_state(hall), before)
        for machine, thing in zip(hall.machines(), things):
            self.assertIs(hall.running(machine), thing)


class DestroyTest(unittest.TestCase):
    def test_9_3_down_to_a_majority_and_one_more(self):
        for journals in range(1, 8):
            for order in (list(range(journals)), list(range(journals))[::-1]):
                hall = Hall(journals=journals)
                intact = list(range(journals))
                for journal in order:
                    if 2 * (len(intact) - 1) > journals:
                        self.assertEqual(hall.destroy(journal), [])
                        intact.remove(journal)
                        self.assertEqual(hall.intact(), intact)
                        self.assertIs(hall.is_up(("journal", journal)), False)
                    else:
                        before = hall_state(hall)
                        with self.assertRaises(TooFew):
                            hall.destroy(journal)
                        self.assertEqual(hall_state(hall), before)
                self.assertEqual(len(intact), journals // 2 + 1)
                self.assertEqual(hall.machines(), machines_of(hall.counts))
                self.assertEqual(hall.counts["journal"], journals)

    def test_9_3_a_journal_that_is_down(self):
        hall = Hall()
        hall.stop(("journal", 0))
        self.assertEqual(hall.destroy(0), [])
        self.assertEqual(hall.intact(), [1, 2])

    def test_9_3_for_good(self):
        hall = Hall()
        hall.destroy(0)
        before = hall_state(hall)
        machine = ("journal", 0)
        for act in (lambda: hall.destroy(0), lambda: hall.start(machine), lambda: hall.stop(machine),
                    lambda: hall.arm(machine, 0), lambda: hall.disarm(machine), lambda: hall.disk(machine),
                    lambda: hall.running(machine)):
            with self.assertRaises(Destroyed):
                act()
        self.assertEqual(hall_state(hall), before)

    def test_9_3_only_journals_can_be_destroyed(self):
        hall = Hall(journals=7, managers=4, clients=4)
        for journal in (-1, 7, 8, MOST, FAR, -FAR):
            with self.assertRaises(Unknown):
                hall.destroy(journal)


class ErrorTest(unittest.TestCase):
    """Each error of each deed, and each pair of errors that can be due together."""

    def hall(self):
        """Client 0 is busy, client 1 is down and was busy, manager 1, journal 1 are down, journal 2 is destroyed."""
        hall = Hall(journals=3, managers=2, clients=3)
        hall.ask(0, CREATE)
        hall.ask(1, CREATE)
        hall.campaign(0)
        hall.stop(("client", 1))
        hall.stop(("manager", 1))
        hall.stop(("journal", 1))
        hall.destroy(2)
        return hall

    def check(self, error, *acts):
        for at in range(len(acts)):
            hall = self.hall()
            before = hall_state(hall)
            with self.subTest(error=error.__name__, at=at):
                try:
                    acts[at](hall)
                    raised = None
                except HallError as found:
                    raised = type(found)
                self.assertIs(raised, error)
                self.assertEqual(hall_state(hall), before)

    def test_9_5_unknown(self):
        unknown = [-1, 3, 100, MOST, FAR, -FAR]
        for number in unknown:
            self.check(Unknown, lambda hall: hall.ask(number, CREATE), lambda hall: hall.look(number, FIND),
                       lambda hall: hall.send(number, 0), lambda hall: hall.send(0, number),
                       lambda hall: hall.campaign(number), lambda hall: hall.resend(number),
                       lambda hall: hall.checkpoint(number), lambda hall: hall.destroy(number),
                       lambda hall: hall.deliver(number * 5), lambda hall: hall.drop(number * 5),
                       lambda hall: hall.deliver(0), lambda hall: hall.drop(4))

    def test_9_5_destroyed(self):
        machine = ("journal", 2)
        self.check(Destroyed, lambda hall: hall.deliver(3), lambda hall: hall.stop(machine),
                   lambda hall: hall.start(machine), lambda hall: hall.arm(machine, 0), lambda hall: hall.disarm(machine),
                   lambda hall: hall.running(machine), lambda hall: hall.disk(machine))

    def test_9_5_machine_down(self):
        self.check(MachineDown, lambda hall: hall.ask(1, CREATE), lambda hall: hall.look(1, FIND),
                   lambda hall: hall.send(1, 0), lambda hall: hall.send(1, 1), lambda hall: hall.campaign(1),
                   lambda hall: hall.resend(1), lambda hall: hall.checkpoint(1), lambda hall: hall.deliver(2),
                   lambda hall: hall.running(("manager", 1)), lambda hall: hall.running(("client", 1)))

    def test_9_5_bad_value(self):
        for thing in odd_things() + [(), 5, "x", ("",), (1,), ("a", 1, 2, 3, 4), ["a"], ("a", None)]:
            self.check(BadValue, lambda hall: hall.ask(2, thing), lambda hall: hall.look(2, thing),
                       lambda hall: hall.look(0, thing))
        for thing in odd_things() + [-1, -FAR, "1", (1,), ()]:
            for machine in (("journal", 0), ("journal", 1), ("manager", 1), ("client", 1), ("client", 2)):
                self.check(BadValue, lambda hall: hall.arm(machine, thing), lambda hall: hall.arm(machine, 0, after=thing),
                           lambda hall: hall.arm(machine, thing, after=thing))

    def test_9_5_busy(self):
        self.check(Busy, lambda hall: hall.ask(0, CREATE), lambda hall: hall.ask(0, ("fly",)))

    def test_9_5_too_few(self):
        self.check(TooFew, lambda hall: hall.destroy(0), lambda hall: hall.destroy(1))

    def test_9_5_unknown_comes_first(self):
        # MachineDown for the client, BadValue, TooFew
        self.check(Unknown, lambda hall: hall.send(1, 2), lambda hall: hall.send(1, -1), lambda hall: hall.send(3, 1),
                   lambda hall: hall.ask(3, ()), lambda hall: hall.look(3, ()), lambda hall: hall.arm(("journal", 3), -1),
                   lambda hall: hall.arm(("link", 0), 0, after=-1), lambda hall: hall.destroy(3))

    def test_9_5_destroyed_comes_next(self):
        # MachineDown, BadValue, TooFew
        self.check(Destroyed, lambda hall: hall.deliver(3), lambda hall: hall.running(("journal", 2)),
                   lambda hall: hall.arm(("journal", 2), -1), lambda hall: hall.arm(("journal", 2), 0, after=None),
                   lambda hall: hall.destroy(2))

    def test_9_5_machine_down_comes_next(self):
        # BadValue, Busy
        self.check(MachineDown, lambda hall: hall.ask(1, ()), lambda hall: hall.look(1, 5), lambda hall: hall.ask(1, CREATE))

    def test_9_5_bad_value_comes_before_busy(self):
        self.check(BadValue, lambda hall: hall.ask(0, ()), lambda hall: hall.ask(0, None))

    def test_9_5_deeds_that_need_no_machine_that_is_up(self):
        for machine in (("journal", 1), ("manager", 1), ("client", 1)):
            hall = self.hall()
            for act in (hall.stop, hall.disarm, lambda thing: hall.arm(thing, 0), hall.disarm, hall.start):
                self.assertEqual(act(machine), [])
        hall = self.hall()
        self.assertEqual(hall.send(0, 1), [4])


class MessagesTest(unittest.TestCase):
    """Which messages each deed sends, and the numbers that it returns."""

    def sent(self, hall, numbers):
        return [hall.network.message(number) for number in numbers]

    def to_journals(self, body, manager=0, journals=3):
        return [(("manager", manager), ("journal", number), body) for number in range(journals)]

    def test_9_2_deeds_that_send_nothing(self):
        hall = led([CREATE])
        sent = hall.network.sent
        machine = ("journal", 2)
        acts = [
            lambda: hall.ask(0, APPEND), lambda: hall.look(0, FIND), lambda: hall.stop(machine), lambda: hall.stop(machine),
            lambda: hall.arm(machine, 0), lambda: hall.disarm(machine), lambda: hall.disarm(machine),
            lambda: hall.start(machine), lambda: hall.start(machine), lambda: hall.destroy(2),
        ]
        for act in acts:
            self.assertEqual(act(), [])
        self.assertEqual((hall.network.sent, len(hall.network)), (sent, 0))

    def test_9_2_campaigns_and_what_follows(self):
        hall = Hall()
        self.assertEqual(hall.campaign(1), [1, 2, 3])
        self.assertEqual(self.sent(hall, [1, 2, 3]), self.to_journals(("promise", 1), 1))
        self.assertEqual(hall.campaign(0), [4, 5, 6])
        self.assertEqual(self.sent(hall, [4, 5, 6]), self.to_journals(("promise", 2), 0))
        self.assertEqual(hall.deliver(4), [7])
        value = hall.running(("journal", 0)).log.value()
        self.assertEqual(self.sent(hall, [7]), [(("journal", 0), ("manager", 0), ("promised", 2, 0, value))])
        self.assertEqual(hall.deliver(1), [8])
        self.assertEqual(self.sent(hall, [8]), [(("journal", 0), ("manager", 1), ("refused", 1, 2))])
        self.assertEqual(hall.deliver(7), [])
        self.assertEqual(hall.deliver(6), [9])
        self.assertEqual(hall.deliver(9), [10, 11, 12])
        self.assertEqual(self.sent(hall, [10, 11, 12]), self.to_journals(("sync", 2, value)))
        self.assertEqual(hall.deliver(8), [])
        self.assertEqual(hall.running(("manager", 1)).seen, 2)

    def test_9_2_requests(self):
        hall = led()
        hall.ask(1, CREATE)
        first = hall.network.sent + 1
        self.assertEqual(hall.send(1, 0), [first])
        self.assertEqual(self.sent(hall, [first]), [(("client", 1), ("manager", 0), ("request", 1, CREATE))])
        numbers = hall.deliver(first)
        self.assertEqual(numbers, [first + 1, first + 2, first + 3])
        self.assertEqual(self.sent(hall, numbers), self.to_journals(("edit", 2, 1, ((1, 1, CREATE),))))
        told = [hall.deliver(number) for number in numbers]
        self.assertEqual(told, [[first + 4], [first + 5], [first + 6]])
        self.assertEqual(self.sent(hall, [first + 6]), [(("journal", 2), ("manager", 0), ("synced", 2, 1))])
        self.assertEqual(hall.deliver(first + 6), [])
        self.assertEqual(hall.deliver(first + 4), [first + 7])
        self.assertEqual(self.sent(hall, [first + 7]), [(("manager", 0), ("client", 1), ("answer", 1, ("made", 1)))])
        self.assertEqual(hall.deliver(first + 7), [])
        self.assertEqual(hall.running(("client", 1)).request(), None)

    def test_9_2_reads(self):
        hall = led([CREATE])
        hall.look(1, ("content", 1))
        first = hall.network.sent + 1
        self.assertEqual(hall.send(1, 0), [first])
        self.assertEqual(self.sent(hall, [first]), [(("client", 1), ("manager", 0), ("read", 1, ("content", 1)))])
        numbers = hall.deliver(first)
        self.assertEqual(self.sent(hall, numbers), self.to_journals(("ping", 2, 1)))
        hall.deliver(numbers[0])
        hall.deliver(numbers[1])
        hall.deliver(first + 4)
        told = hall.deliver(first + 5)
        self.assertEqual(self.sent(hall, told), [(("manager", 0), ("client", 1), ("value", 1, 1, ("content", 1, 0, ())))])

    def test_9_2_send(self):
        hall = Hall(managers=2)
        self.assertEqual(hall.send(0, 0), [])
        hall.ask(0, CREATE)
        self.assertEqual(hall.send(0, 1), [1])
        hall.look(0, FIND)
        self.assertEqual(hall.send(0, 0), [2, 3])
        request, read = ("request", 1, CREATE), ("read", 1, FIND)
        self.assertEqual(self.sent(hall, [1]), [(("client", 0), ("manager", 1), request)])
        self.assertEqual(self.sent(hall, [2, 3]), [(("client", 0), ("manager", 0), body) for body in (request, read)])
        hall.look(1, FIND)
        hall.look(1, ("find", "/a"))
        self.assertEqual(self.sent(hall, hall.send(1, 0)), [(("client", 1), ("manager", 0), ("read", 2, ("find", "/a")))])
        hall.stop(("manager", 1))
        self.assertEqual(hall.send(0, 1), [5, 6])
        with self.assertRaises(MachineDown):
            hall.deliver(5)

    def test_9_2_checkpoints_and_resending(self):
        hall = led([CREATE])
        hall.stop(("journal", 2))
        first = hall.network.sent + 1
        numbers = hall.checkpoint(0)
        self.assertEqual(numbers, [first, first + 1, first + 2])
        image = hall.running(("manager", 0)).log.image
        self.assertEqual(self.sent(hall, numbers), self.to_journals(("purge", 2, 1, image)))
        self.assertEqual(hall.checkpoint(0), [])
        self.assertEqual((hall.checkpoint(1), hall.resend(1)), ([], []))
        self.assertEqual(hall.resend(0), [])
        hall.ask(0, APPEND)
        hall.send(0, 0)
        hall.deliver(first + 3)
        numbers = hall.resend(0)
        self.assertEqual(self.sent(hall, numbers), self.to_journals(("edit", 2, 2, ((0, 2, APPEND),))))
        self.assertEqual(numbers, [first + 7, first + 8, first + 9])

    def test_9_2_messages_stay_and_can_be_delivered_again(self):
        hall = Hall()
        hall.campaign(0)
        self.assertEqual([hall.deliver(1) for _ in range(3)], [[4], [5], [6]])
        self.assertEqual(hall.network.numbers(), [1, 2, 3, 4, 5, 6])
        self.assertEqual([hall.network.message(number)[2][0] for number in (4, 5, 6)], ["promised"] * 3)
        for number in (4, 5, 6):
            self.assertEqual(hall.deliver(number), [])
        self.assertEqual(hall.running(("manager", 0)).role, "asking")

    def test_9_2_dropped_messages(self):
        hall = Hall()
        hall.campaign(0)
        self.assertEqual(hall.drop(2), [])
        for act in (hall.drop, hall.deliver):
            with self.assertRaises(Unknown):
                act(2)
        self.assertEqual(hall.network.numbers(), [1, 3])
        self.assertEqual(hall.resend(0), [4, 5, 6])

    def test_9_2_late_messages_in_any_order(self):
        hall = led()
        hall.ask(0, CREATE)
        hall.ask(1, ("create", "/b"))
        request, other = hall.send(0, 0) + hall.send(1, 0)
        edits = [hall.deliver(other), hall.deliver(request)]
        hall.deliver(edits[1][0])
        hall.deliver(edits[1][1])
        self.assertEqual([hall.running(("journal", number)).log.length for number in range(3)], [0, 0, 0])
        told = [hall.deliver(number)[0] for number in edits[0][:2] + edits[1][:2]]
        self.assertEqual([hall.running(("journal", number)).log.length for number in range(3)], [2, 2, 0])
        answers = [number for at in (3, 0, 2, 1) for number in hall.deliver(told[at])]
        self.assertEqual([hall.network.message(number)[1:] for number in answers],
                         [(("client", 1), ("answer", 1, ("made", 1))), (("client", 0), ("answer", 1, ("made", 2)))])
        for number in answers[::-1] + answers:
            hall.deliver(number)
        self.assertEqual([event[:3] for event in hall.book.events()[2:]], [("answered", 0, 1), ("answered", 1, 1)])

    def test_9_2_messages_to_machines_that_are_down_and_destroyed(self):
        hall = Hall()
        hall.campaign(0)
        hall.stop(("journal", 0))
        hall.destroy(1)
        before = hall_state(hall)
        for number, error in ((1, MachineDown), (2, Destroyed)):
            with self.assertRaises(error):
                hall.deliver(number)
        self.assertEqual(hall_state(hall), before)
        hall.start(("journal", 0))
        self.assertEqual(hall.deliver(1), [4])

    def test_9_2_an_answer_for_a_manager_that_has_stopped(self):
        hall = Hall()
        hall.campaign(0)
        hall.deliver(1)
        hall.stop(("manager", 0))
        hall.start(("manager", 0))
        self.assertEqual(hall.deliver(4), [])
        self.assertEqual(hall.running(("manager", 0)).role, "idle")

    def test_8_2_all_that_machines_send_are_messages(self):
        hall = led([CREATE, APPEND])
        words = {}
        hall.ask(0, APPEND)
        hall.look(0, FIND)
        acts = [lambda: hall.send(0, 0), lambda: hall.checkpoint(0), lambda: hall.campaign(1), lambda: hall.campaign(1)]
        for act in acts:
            act()
            while hall.network.numbers():
                number = hall.network.numbers()[0]
                message = hall.network.message(number)
                self.assertIs(is_message(message), True)
                words[message[2][0]] = True
                hall.deliver(number)
                hall.drop(number)
        self.assertEqual(sorted(words), ["answer", "edit", "ping", "ponged", "promise", "promised", "purge", "read",
                                         "refused", "request", "sync", "synced", "value"])

    def test_9_2_nothing_happens_by_itself(self):
        hall = prepared([("ask", 0, CREATE), ("campaign", 0), ("send", 0, 0)])
        self.assertEqual(hall.running(("manager", 0)).role, "asking")
        self.assertEqual(hall.network.numbers(), [1, 2, 3, 4])
        self.assertEqual(hall.running(("journal", 0)).promise, 0)


if __name__ == "__main__":
    unittest.main()

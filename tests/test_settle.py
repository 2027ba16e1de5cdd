import unittest

from appendhall.errors import HallError
from appendhall.hall import Hall
from appendhall.scenario import perform
from appendhall.settle import settle
from tests.draws import Draws
from tests.halls import DrawnDeeds, deliver_all, hall_state, led

CREATE = ("create", "/notes")
FIND = ("find", "/")


def settled_by_hand(hall):
    """Does what point 9.8 says, word for word, by deeds alone; returns how many messages were delivered."""
    delivered = 0

    def deliver_all_messages():
        nonlocal delivered
        while hall.network.numbers():
            number = hall.network.numbers()[0]
            kind, receiver = hall.network.message(number)[1]
            if kind != "journal" or receiver in hall.intact():
                hall.deliver(number)
                delivered += 1
            hall.drop(number)

    for kind, number in hall.machines():
        if kind != "journal" or number in hall.intact():
            hall.disarm((kind, number))
            if not hall.is_up((kind, number)):
                hall.start((kind, number))
    for number in hall.network.numbers():
        hall.drop(number)
    hall.campaign(0)
    deliver_all_messages()
    if hall.running(("manager", 0)).role != "leading":
        hall.campaign(0)
        deliver_all_messages()
    for client in range(hall.counts["client"]):
        hall.send(client, 0)
        deliver_all_messages()
    return delivered


def drawn_hall(seed, steps):
    draws = Draws(seed)
    hall = Hall(journals=draws.randrange(1, 8), managers=draws.randrange(1, 5), clients=draws.randrange(1, 5))
    drawn = DrawnDeeds(draws, hall)
    for step in range(steps):
        perform(hall, drawn.next(step))
    return hall


class SettleTest(unittest.TestCase):
    def check_settled(self, hall):
        manager = hall.running(("manager", 0))
        self.assertEqual(manager.role, "leading")
        self.assertEqual(len(hall.network), 0)
        for machine in hall.machines():
            if machine[0] != "journal" or machine[1] in hall.intact():
                self.assertIs(hall.is_up(machine), True)
                self.assertIs(hall.disk(machine).armed, False)
        for client in range(hall.counts["client"]):
            thing = hall.running(("client", client))
            self.assertEqual((thing.request(), thing.read(), thing.deed), (None, None, None))
        for journal in hall.intact():
            thing = hall.running(("journal", journal))
            self.assertEqual((thing.epoch, thing.log.value()), (manager.epoch, manager.log.value()))
        self.assertEqual(manager.commit, manager.log.length)

    def test_the_example(self):
        hall = Hall(journals=1, managers=1, clients=1)
        self.assertEqual(hall.ask(0, CREATE), [])
        self.assertEqual(settle(hall), 8)
        self.assertEqual(hall.book.events()[1], ("answered", 0, 1, ("made", 1)))

    def test_9_8_a_new_hall(self):
        for journals in range(1, 8):
            hall = Hall(journals=journals, managers=3, clients=4)
            self.assertEqual(settle(hall), 4 * journals)
            self.check_settled(hall)
            self.assertEqual(hall.running(("manager", 0)).epoch, 3)

    def test_9_8_manager_0_campaigns_also_if_it_leads_already(self):
        hall = led([CREATE])
        self.assertEqual(hall.running(("manager", 0)).epoch, 2)
        self.assertEqual(settle(hall), 12)
        self.check_settled(hall)
        self.assertEqual(hall.running(("manager", 0)).epoch, 4)
        self.assertEqual(settle(hall), 12)
        self.assertEqual(hall.running(("manager", 0)).epoch, 6)

    def test_9_8_open_requests_and_looks(self):
        hall = led([CREATE], clients=4)
        hall.ask(0, ("append", "/notes", "x"))
        hall.look(0, ("content", 1))
        hall.look(2, ("content", 1))
        hall.ask(3, ("append", "/notes", "y"))
        # 12 of the campaign, 8 of each request with its answer, 8 of each read with its value.
        self.assertEqual(settle(hall), 12 + 4 * 8)
        self.check_settled(hall)
        told = [event for event in hall.book.events()[2:] if event[0] in ("answered", "seen")]
        self.assertEqual(told, [
            ("answered", 0, 2, ("written", 2, 1, 0)), ("seen", 0, 1, 2, ("content", 1, 0, ((2, 0, 2, "x"),))),
            ("seen", 2, 1, 2, ("content", 1, 0, ((2, 0, 2, "x"),))), ("answered", 3, 1, ("written", 3, 1, 1)),
        ])

    def test_9_8_another_manager_leads(self):
        hall = Hall(managers=4)
        for _ in range(3):
            hall.campaign(3)
            deliver_all(hall)
        hall.ask(1, CREATE)
        hall.send(1, 3)
        deliver_all(hall)
        self.assertEqual(hall.running(("manager", 3)).epoch, 11)
        # The first campaign, with epoch 4, is refused by all journals.
        self.assertEqual(settle(hall), 6 + 12)
        self.check_settled(hall)
        self.assertEqual(hall.running(("manager", 0)).epoch, 12)
        self.assertEqual(hall.running(("manager", 0)).commit, 1)

    def test_9_8_journals_with_unlike_promises(self):
        hall = Hall(journals=5, managers=2)
        for count in range(1, 6):
            numbers = hall.campaign(1)
            hall.deliver(numbers[count - 1])
        promises = [hall.running(("journal", number)).promise for number in range(5)]
        self.assertEqual(promises, [1, 3, 5, 7, 9])
        settle(hall)
        self.check_settled(hall)
        self.assertEqual(hall.running(("manager", 0)).epoch, 10)

    def test_9_8_one_refusal_ends_the_first_campaign(self):
        hall = Hall(journals=3, managers=2)
        hall.campaign(1)
        hall.deliver(hall.campaign(1)[2])
        self.assertEqual([hall.running(("journal", number)).promise for number in range(3)], [0, 0, 3])
        # A refusal of a greater promise ends the epoch, although a majority promised.
        settle(hall)
        self.check_settled(hall)
        self.assertEqual(hall.running(("manager", 0)).epoch, 4)

    def test_9_8_machines_that_are_down_armed_and_destroyed(self):
        hall = led([CREATE], journals=5)
        hall.ask(0, ("append", "/notes", "x"))
        hall.ask(1, ("append", "/notes", "y"))
        for machine in hall.machines():
            hall.arm(machine, 1)
        for machine in (("journal", 0), ("journal", 3), ("manager", 0), ("client", 1)):
            hall.stop(machine)
        hall.destroy(0)
        hall.destroy(4)
        # Two journals are destroyed: of five messages to the journals three are delivered.
        self.assertEqual(settle(hall), 4 * 3 + 2 * (2 + 2 * 3))
        self.check_settled(hall)
        self.assertEqual(hall.intact(), [1, 2, 3])

    def test_9_8_messages_under_way_are_dropped(self):
        hall = led([CREATE])
        hall.ask(0, ("append", "/notes", "x"))
        hall.send(0, 0)
        hall.campaign(1)
        hall.resend(0)
        before = hall.network.sent
        settle(hall)
        self.check_settled(hall)
        self.assertGreater(hall.network.sent, before)
        # The dropped promises have reached no journal.
        self.assertEqual(hall.running(("manager", 0)).epoch, 4)

    def test_9_8_as_by_hand_after_long_rows(self):
        campaigns = {}
        for seed in range(120):
            hall, other = drawn_hall(seed, 40 + 4 * seed), drawn_hall(seed, 40 + 4 * seed)
            self.assertEqual(hall_state(hall), hall_state(other))
            before = hall.running(("manager", 0)).epoch if hall.is_up(("manager", 0)) else 0
            with self.subTest(seed=seed):
                self.assertEqual(settle(hall), settled_by_hand(other))
                self.assertEqual(hall_state(hall), hall_state(other))
                self.check_settled(hall)
            campaigns[hall.running(("manager", 0)).epoch - before] = True
        self.assertGreater(len(campaigns), 3)

    def test_9_8_settling_twice(self):
        for seed in range(10):
            hall = drawn_hall(seed, 200)
            settle(hall)
            events = hall.book.events()
            self.assertEqual(settle(hall), 4 * len(hall.intact()))
            self.assertEqual(hall.book.events(), events)

    def test_9_8_a_settled_hall_goes_on(self):
        hall = drawn_hall(3, 200)
        settle(hall)
        hall.ask(0, ("mkdir", "/later"))
        hall.send(0, 0)
        while hall.network.numbers():
            number = hall.network.numbers()[0]
            try:
                hall.deliver(number)
            except HallError:
                pass
            hall.drop(number)
        self.assertEqual(hall.book.events()[-1][0], "answered")


if __name__ == "__main__":
    unittest.main()

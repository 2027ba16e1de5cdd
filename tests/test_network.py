import unittest

from appendhall.errors import BadValue, Unknown
from appendhall.network import Network
from tests.draws import Draws
from tests.samples import FAR, MOST, odd_things

PING = (("manager", 0), ("journal", 1), ("ping", 4, 1))
REQUEST = (("client", 0), ("manager", 1), ("request", 1, ("create", "/a")))
ANSWER = (("manager", 1), ("client", 0), ("answer", 1, ("made", 1)))


def filled(count):
    network = Network()
    for token in range(1, count + 1):
        network.send((("manager", 0), ("journal", 1), ("ping", 4, token)))
    return network


def state(network):
    return network.sent, network.numbers(), [network.message(number) for number in network.numbers()]


class NetworkTest(unittest.TestCase):
    def test_the_example(self):
        network = Network()
        self.assertEqual(network.send(REQUEST), 1)
        self.assertEqual(network.send(ANSWER), 2)
        self.assertIsNone(network.drop(1))
        self.assertEqual((network.numbers(), network.sent), ([2], 2))

    def test_8_4_a_new_network(self):
        network = Network()
        self.assertEqual((network.sent, network.numbers(), len(network), list(network)), (0, [], 0, []))

    def test_8_4_numbers_from_1_on(self):
        network = Network()
        for number in range(1, 30):
            message = (PING, REQUEST, ANSWER)[number % 3]
            self.assertEqual(network.send(message), number)
            self.assertEqual((network.sent, len(network)), (number, number))
            self.assertEqual(network.message(number), message)
            self.assertEqual(network.numbers(), list(range(1, number + 1)))

    def test_8_4_a_number_is_never_used_again(self):
        network = Network()
        for number in range(1, 10):
            self.assertEqual(network.send(PING), number)
            network.drop(number)
            self.assertEqual((len(network), network.sent), (0, number))
        network = filled(5)
        for number in (5, 1, 3):
            network.drop(number)
        self.assertEqual(network.send(PING), 6)
        self.assertEqual((network.numbers(), list(network), len(network)), ([2, 4, 6], [2, 4, 6], 3))

    def test_8_4_a_message_stays_until_it_is_dropped(self):
        network = filled(3)
        for _ in range(3):
            self.assertEqual(network.message(2), (("manager", 0), ("journal", 1), ("ping", 4, 2)))
        self.assertEqual(network.numbers(), [1, 2, 3])

    def test_8_4_equal_messages_are_messages_of_their_own(self):
        network = Network()
        self.assertEqual([network.send(PING) for _ in range(3)], [1, 2, 3])
        network.drop(2)
        self.assertEqual([network.message(number) for number in network], [PING, PING])

    def test_8_4_dropped_and_unknown_numbers(self):
        network = filled(4)
        network.drop(2)
        before = state(network)
        for number in (0, 2, 5, 6, -1, -4, MOST, -MOST, FAR, -FAR):
            with self.assertRaises(Unknown):
                network.message(number)
            with self.assertRaises(Unknown):
                network.drop(number)
            self.assertEqual(state(network), before)

    def test_8_4_what_is_no_message(self):
        network = filled(2)
        before = state(network)
        for thing in odd_things() + [5, "x", (), PING[:2], PING + (0,), list(PING), (PING[1], PING[0], PING[2]),
                                     (PING[0], PING[1], ("ping", 4)), (("manager", -1), PING[1], PING[2])]:
            with self.assertRaises(BadValue):
                network.send(thing)
            self.assertEqual(state(network), before)
        self.assertEqual(network.send(PING), 3)

    def test_8_4_messages_are_not_changed(self):
        network = Network()
        for message in (PING, REQUEST, ANSWER):
            number = network.send(message)
            self.assertEqual(network.message(number), message)
            self.assertIs(type(network.message(number)), tuple)

    def test_0_4_a_returned_list_is_new(self):
        network = filled(3)
        network.numbers().clear()
        network.numbers().append(9)
        self.assertEqual(network.numbers(), [1, 2, 3])
        self.assertIsNot(network.numbers(), network.numbers())

    def test_0_4_two_networks_have_no_effect_on_each_other(self):
        one, other = filled(2), Network()
        self.assertEqual(state(other), (0, [], []))
        other.send(ANSWER)
        one.drop(1)
        self.assertEqual((other.numbers(), one.numbers(), other.sent, one.sent), ([1], [2], 1, 2))

    def test_8_4_ascending_numbers_in_a_long_row(self):
        draws = Draws(7)
        network, kept = Network(), {}
        for _ in range(2000):
            if draws.chance(55):
                message = (("manager", 0), ("journal", 1), ("ping", 4, draws.randrange(50)))
                kept[network.send(message)] = message
            elif kept:
                number = draws.choice(list(kept))
                network.drop(number)
                del kept[number]
            self.assertEqual(network.numbers(), sorted(kept))
        self.assertEqual({number: network.message(number) for number in network}, kept)


if __name__ == "__main__":
    unittest.main()

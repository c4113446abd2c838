"""The network (point 7.3)."""

import random
import unittest

from ringheld import network as network_file
from ringheld.errors import BadValue, Unknown
from ringheld.network import Network
from test_messages import WORDS, messages
from things import odd_things

LIMIT = 10 ** 12


def message_of(number):
    return (("client", 0), ("house", number), ("fetch", 0, 1, "lamp"))


def network_with(many):
    network = Network()
    for number in range(1, many + 1):
        network.send(message_of(number))
    return network


class TheNetwork(unittest.TestCase):
    def check(self, network, expected, sent):
        """Check the network: expected is the dict from numbers to messages."""
        numbers = sorted(expected)
        self.assertEqual(network.numbers(), numbers)
        self.assertEqual(list(network), numbers)
        self.assertEqual([number for number in network], numbers)
        self.assertEqual((len(network), network.sent), (len(numbers), sent))
        for number in range(-3, sent + 4):
            if number in expected:
                self.assertEqual(network.message(number), expected[number])
            else:
                self.unknown(network, number)

    def unknown(self, network, number):
        with self.assertRaises(Unknown):
            network.message(number)
        with self.assertRaises(Unknown):
            network.drop(number)

    def test_a_network_without_messages(self):
        self.check(Network(), {}, 0)

    def test_numbers_ascend_from_1(self):
        network, expected = Network(), {}
        for number in range(1, 30):
            self.assertEqual(network.send(message_of(number)), number)
            expected[number] = message_of(number)
            self.check(network, expected, number)

    def test_each_word_is_carried(self):
        network, sent = Network(), []
        for word in WORDS:
            for message in messages(word):
                sent.append(message)
                self.assertEqual(network.send(message), len(sent))
        self.assertEqual([network.message(number) for number in network], sent)

    def test_equal_messages_have_their_own_numbers(self):
        network = Network()
        self.assertEqual([network.send(message_of(5)) for _ in range(3)], [1, 2, 3])
        network.drop(2)
        self.check(network, {1: message_of(5), 3: message_of(5)}, 3)

    def test_numbers_are_never_used_again(self):
        network = network_with(3)
        self.assertIsNone(network.drop(3))
        self.assertEqual(network.send(message_of(4)), 4)
        for number in (1, 2, 4):
            self.assertIsNone(network.drop(number))
        self.check(network, {}, 4)
        self.assertEqual(network.send(message_of(5)), 5)
        self.check(network, {5: message_of(5)}, 5)

    def test_a_message_stays_until_it_is_dropped(self):
        network = network_with(2)
        for _ in range(3):
            self.assertEqual(network.message(1), message_of(1))
        self.check(network, {1: message_of(1), 2: message_of(2)}, 2)
        network.drop(1)
        self.check(network, {2: message_of(2)}, 2)
        self.unknown(network, 1)

    def test_what_is_no_message_uses_up_no_number(self):
        network = network_with(2)
        wrong = odd_things() + [list(message_of(1)), message_of(1)[2], (("house", 0), *message_of(1)[1:]), message_of(-1),
                                (("client", 0), ("house", 1), ["fetch", 0, 1, "lamp"]), ()]
        for thing in wrong:
            with self.assertRaises(BadValue):
                network.send(thing)
        self.check(network, {1: message_of(1), 2: message_of(2)}, 2)
        self.assertEqual(network.send(message_of(3)), 3)

    def test_unknown_numbers_change_nothing(self):
        network = network_with(3)
        network.drop(2)
        for number in (0, -1, -3, 2, 4, 5, LIMIT, -LIMIT):
            self.unknown(network, number)
        self.check(network, {1: message_of(1), 3: message_of(3)}, 3)

    def test_lists_that_are_returned_are_new(self):
        network = network_with(3)
        network.numbers().append(9)
        network.numbers().clear()
        before = network.numbers()
        network.drop(1)
        self.assertEqual(before, [1, 2, 3])
        self.check(network, {2: message_of(2), 3: message_of(3)}, 3)

    def test_two_networks(self):
        one, other = Network(), Network()
        self.assertEqual([one.send(message_of(1)), one.send(message_of(2)), other.send(message_of(7))], [1, 2, 1])
        one.drop(1)
        self.check(one, {2: message_of(2)}, 2)
        self.check(other, {1: message_of(7)}, 1)

    def test_any_run(self):
        source = random.Random(73)
        network, expected, sent = Network(), {}, 0
        for step in range(300):
            if expected and source.random() < 0.45:
                number = source.choice(sorted(expected))
                network.drop(number)
                del expected[number]
            else:
                sent += 1
                self.assertEqual(network.send(message_of(step)), sent)
                expected[sent] = message_of(step)
            if step % 20 == 0:
                self.check(network, expected, sent)

    def test_example(self):
        network = Network()
        self.assertEqual(network.send((("client", 0), ("house", 1), ("fetch", 0, 1, "lamp"))), 1)
        network.drop(1)
        self.assertEqual((len(network), network.sent), (0, 1))

    def test_the_interface_stands_in_the_file_and_in_the_class(self):
        self.assertEqual(Network.__module__, network_file.__name__)
        for name in ("send", "message", "drop", "numbers", "__len__", "__iter__"):
            self.assertIn(name, vars(Network))

"""Networks as text: what is written, what is read, and that both undo each other (points 09.1 and 09.3)."""

import copy
import unittest

from made_networks import Numbers, made_network
from spikehold.networks import Network, Rule, Synapse
from spikehold.neurons import Neuron
from spikehold.texts import format_network, parse_network, parse_number

GREAT = 1 << 20


def pairs_of_lines_and_networks():
    """Return texts, each beside the network that it writes."""
    return [
        (["inputs 0"], Network(0, [], [])),
        (["inputs 16"], Network(16, [], [])),
        (["inputs 0", "neuron 1 0 0 0 reset"], Network(0, [Neuron(1)], [])),
        (
            ["inputs 1", "neuron 5 0 2 -7 reset", "synapse 0 0 5 1 fixed"],
            Network(1, [Neuron(5, refractory=2, floor=-7)], [Synapse(0, 0, 5, 1)]),
        ),
        (
            ["inputs 2", "neuron 1048576 15 14 -1048576 subtract", "neuron 10 3 0 0 reset",
             "synapse 3 0 -1048576 15 plastic", "synapse 1 1 0 1 fixed", "synapse 1 1 1048576 2 fixed"],
            Network(
                2, [Neuron(GREAT, leak=15, refractory=14, floor=-GREAT, subtract=True), Neuron(10, leak=3)],
                [Synapse(3, 0, -GREAT, 15, True), Synapse(1, 1, 0, 1), Synapse(1, 1, GREAT, 2)],
            ),
        ),
        (["inputs 3", "rule 0 1 2 -3 4"], Network(3, [], [], Rule(0, 1, 2, -3, 4))),
        (
            ["inputs 0", "neuron 2 0 0 -1 reset", "rule 1000 999 100 -1048576 1048576"],
            Network(0, [Neuron(2, floor=-1)], [], Rule(1000, 999, 100, -GREAT, GREAT)),
        ),
        (
            ["inputs 1", "neuron 2 0 0 -1 subtract", "synapse 1 0 -9 3 plastic", "rule 10 20 30 -9 -9"],
            Network(
                1, [Neuron(2, floor=-1, subtract=True)], [Synapse(1, 0, -9, 3, True)], Rule(10, 20, 30, -9, -9),
            ),
        ),
    ]


class FormatTest(unittest.TestCase):
    def test_each_form_of_line(self):
        for lines, network in pairs_of_lines_and_networks():
            self.assertEqual(format_network(network), lines)

    def test_the_lines_are_a_new_list_of_strings(self):
        network = pairs_of_lines_and_networks()[-1][1]
        found = format_network(network)
        self.assertEqual((type(found), {type(line) for line in found}), (list, {str}))
        found.clear()
        self.assertEqual(len(format_network(network)), 4)

    def test_the_network_stays(self):
        for _, network in pairs_of_lines_and_networks():
            before = copy.deepcopy(network)
            format_network(network)
            self.assertEqual(network, before)


class ParseTest(unittest.TestCase):
    def test_each_form_of_line(self):
        for lines, network in pairs_of_lines_and_networks():
            found = parse_network(lines)
            self.assertIs(type(found), Network)
            self.assertEqual(found, network)

    def test_the_last_words_are_truth_values(self):
        found = parse_network([
            "inputs 1", "neuron 1 0 0 0 reset", "neuron 1 0 0 0 subtract",
            "synapse 0 0 1 1 fixed", "synapse 0 0 1 1 plastic",
        ])
        self.assertEqual([neuron.subtract for neuron in found.neurons], [False, True])
        self.assertEqual([synapse.plastic for synapse in found.synapses], [False, True])
        for truth in [found.neurons[0].subtract, found.synapses[1].plastic]:
            self.assertIs(type(truth), bool)

    def test_the_lines_stay(self):
        for lines, _ in pairs_of_lines_and_networks():
            before = list(lines)
            parse_network(lines)
            self.assertEqual(lines, before)

    def test_500_neurons(self):
        lines = ["inputs 0"] + ["neuron 1 0 0 0 reset"] * 500 + ["synapse 499 499 1 1 fixed"]
        found = parse_network(lines)
        self.assertEqual(found, Network(0, [Neuron(1)] * 500, [Synapse(499, 499, 1, 1)]))


class BothWaysTest(unittest.TestCase):
    def test_example_of_the_document(self):
        lines = ["inputs 1", "neuron 5 0 2 -7 reset", "synapse 0 0 5 1 fixed"]
        self.assertEqual(format_network(parse_network(lines)) == lines, True)

    def test_reading_what_was_written(self):
        rules = 0
        for seed in range(150):
            network = made_network(Numbers(seed), seed % 2 == 0)
            lines = format_network(network)
            self.assertEqual(parse_network(lines), network)
            self.assertEqual(format_network(parse_network(lines)), lines)
            self.assertEqual(len(lines), 1 + len(network.neurons) + len(network.synapses) + (network.rule is not None))
            rules += network.rule is not None
        self.assertEqual(rules, 75)

    def test_writing_what_was_read(self):
        for lines, _ in pairs_of_lines_and_networks():
            self.assertEqual(format_network(parse_network(lines)), lines)


class NumberTest(unittest.TestCase):
    def test_numbers(self):
        for number in (0, 1, 9, 10, 42, 100, 1048576, 9999999, -1, -10, -1048576, -9999999):
            found = parse_number(str(number))
            self.assertEqual((found, type(found)), (number, int))

    def test_words_that_write_no_number(self):
        for word in (
            "", "-", "+", "--", "-0", "+0", "+5", "00", "01", "-01", "007", "--5", "5-", "1-2", "-+5",
            "10000000", "12345678", "-12345678", "00000000", "1.0", "1e3", "1_0", "0x1", "a", "five",
            " 5", "5 ", "5\n", "\t5", "5 5", " ", "\u0663", "1\u0663", "\u00b2", "\uff15", "\u22125", "None", "True",
        ):
            self.assertIsNone(parse_number(word), repr(word))

    def test_seven_digits_and_eight(self):
        self.assertEqual([parse_number("1234567"), parse_number("-1234567")], [1234567, -1234567])
        self.assertEqual([parse_number("0123456"), parse_number("12345670")], [None, None])
        self.assertIsNone(parse_number("9" * 5000))

    def test_all_numbers_of_up_to_three_signs(self):
        signs = "0123456789-"
        words = [""] + [a + b + c for a in signs for b in [""] + list(signs) for c in [""] + list(signs)]
        written = {str(number): number for number in range(-99, 1000)}
        for word in words:
            self.assertEqual(parse_number(word), written.get(word), word)


if __name__ == "__main__":
    unittest.main()

"""Networks, synapses, rules and runs as values; losses and gains (points 00.3, 02.1 and 02.2, steps 2 and 4 of 02.4)."""

import unittest

from spikehold.networks import Network, Rule, Run, Synapse, depressed, potentiated
from spikehold.neurons import Neuron

LIMIT = 1 << 20


class SynapseTest(unittest.TestCase):
    def test_attributes(self):
        synapse = Synapse(3, 2, -7, 15, True)
        told = (synapse.source, synapse.target, synapse.weight, synapse.delay, synapse.plastic)
        self.assertEqual(told, (3, 2, -7, 15, True))

    def test_a_synapse_is_not_plastic_by_default(self):
        self.assertIs(Synapse(0, 0, 1, 1).plastic, False)

    def test_names_of_the_arguments(self):
        self.assertEqual(Synapse(source=1, target=2, weight=3, delay=4, plastic=True), Synapse(1, 2, 3, 4, True))


class RuleTest(unittest.TestCase):
    def test_attributes(self):
        rule = Rule(1, 2, 3, -4, 5)
        self.assertEqual((rule.gain, rule.loss, rule.window, rule.least, rule.most), (1, 2, 3, -4, 5))

    def test_names_of_the_arguments(self):
        self.assertEqual(Rule(gain=1, loss=2, window=3, least=-4, most=5), Rule(1, 2, 3, -4, 5))


class NetworkTest(unittest.TestCase):
    def test_attributes(self):
        neurons = [Neuron(5), Neuron(6)]
        synapses = [Synapse(0, 0, 5, 1)]
        network = Network(1, neurons, synapses, Rule(1, 2, 3, -4, 5))
        self.assertEqual(network.inputs, 1)
        self.assertEqual(network.neurons, neurons)
        self.assertEqual(network.synapses, synapses)
        self.assertEqual(network.rule, Rule(1, 2, 3, -4, 5))

    def test_there_is_no_rule_by_default(self):
        self.assertIsNone(Network(0, [], []).rule)

    def test_sources(self):
        for inputs in (0, 1, 16):
            for many in (0, 1, 500):
                self.assertEqual(Network(inputs, [Neuron(5)] * many, []).sources(), inputs + many)

    def test_the_lists_are_copied(self):
        neurons = [Neuron(5)]
        synapses = [Synapse(0, 0, 5, 1)]
        network = Network(1, neurons, synapses)
        neurons.append(Neuron(6))
        synapses.clear()
        self.assertEqual(network, Network(1, [Neuron(5)], [Synapse(0, 0, 5, 1)]))
        self.assertEqual(network.sources(), 2)
        network.neurons.append(Neuron(7))
        self.assertEqual(neurons, [Neuron(5), Neuron(6)])


class RunTest(unittest.TestCase):
    def test_attributes(self):
        found = Run([[], [0, 1]], [5, -6])
        self.assertEqual(found.spikes, [[], [0, 1]])
        self.assertEqual(found.weights, [5, -6])

    def test_the_lists_are_copied(self):
        spikes = [[], [0]]
        weights = [5]
        found = Run(spikes, weights)
        spikes.append([1])
        weights.append(6)
        self.assertEqual(found, Run([[], [0]], [5]))


class LossAndGainTest(unittest.TestCase):
    def test_a_loss(self):
        rule = Rule(5, 3, 10, -7, 20)
        for weight, expected in ((20, 17), (0, -3), (-3, -6), (-4, -7), (-5, -7), (-7, -7)):
            self.assertEqual(depressed(rule, weight), expected)

    def test_a_gain(self):
        rule = Rule(5, 3, 10, -7, 20)
        for weight, expected in ((-7, -2), (0, 5), (14, 19), (15, 20), (16, 20), (20, 20)):
            self.assertEqual(potentiated(rule, weight), expected)

    def test_each_looks_at_its_own_bound_only(self):
        rule = Rule(5, 3, 10, -7, 20)
        self.assertEqual(depressed(rule, 30), 27)
        self.assertEqual(potentiated(rule, -30), -25)
        self.assertEqual(depressed(rule, -8), -7)
        self.assertEqual(potentiated(rule, 21), 20)

    def test_nothing_is_lost_or_gained(self):
        rule = Rule(0, 0, 0, -7, 20)
        for weight in (-7, 0, 20):
            self.assertEqual(depressed(rule, weight), weight)
            self.assertEqual(potentiated(rule, weight), weight)

    def test_the_least_weight_is_the_most(self):
        rule = Rule(1000, 1000, 100, 4, 4)
        self.assertEqual(depressed(rule, 4), 4)
        self.assertEqual(potentiated(rule, 4), 4)

    def test_the_widest_bounds(self):
        rule = Rule(1000, 1000, 100, -LIMIT, LIMIT)
        self.assertEqual(depressed(rule, LIMIT), LIMIT - 1000)
        self.assertEqual(depressed(rule, 999 - LIMIT), -LIMIT)
        self.assertEqual(potentiated(rule, -LIMIT), 1000 - LIMIT)
        self.assertEqual(potentiated(rule, LIMIT - 999), LIMIT)

    def test_the_rule_is_unchanged(self):
        rule = Rule(5, 3, 10, -7, 20)
        depressed(rule, 0)
        potentiated(rule, 0)
        self.assertEqual(rule, Rule(5, 3, 10, -7, 20))


if __name__ == "__main__":
    unittest.main()

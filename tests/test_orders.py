"""The order in which neurons and synapses are listed has no effect (point 02.5)."""

import unittest

from made_networks import Numbers, made_network, made_stimuli
from spikehold.networks import Network, Rule, Synapse, run
from spikehold.neurons import Neuron


def renumbered(network, neuron_order, synapse_order):
    """Return the network with the neuron neuron_order[k] as its neuron k, and likewise for synapses."""
    place = {old: new for new, old in enumerate(neuron_order)}

    def source_of(source):
        return source if source < network.inputs else network.inputs + place[source - network.inputs]

    moved = [network.synapses[k] for k in synapse_order]
    synapses = [Synapse(source_of(s.source), place[s.target], s.weight, s.delay, s.plastic) for s in moved]
    return Network(network.inputs, [network.neurons[n] for n in neuron_order], synapses, network.rule)


class OrdersTest(unittest.TestCase):
    def assert_same(self, network, neuron_order, synapse_order, stimuli):
        found = run(network, stimuli)
        other = run(renumbered(network, neuron_order, synapse_order), stimuli)
        self.assertEqual([sorted(neuron_order[n] for n in row) for row in other.spikes], found.spikes)
        self.assertEqual(other.weights, [found.weights[k] for k in synapse_order])
        return found

    def test_a_small_network_by_hand(self):
        neurons = [Neuron(5), Neuron(4, refractory=1), Neuron(3, leak=1)]
        synapses = [Synapse(0, 0, 5, 1, True), Synapse(1, 1, 4, 1, True), Synapse(2, 2, 3, 2), Synapse(3, 0, 5, 1, True)]
        for rule in (None, Rule(2, 1, 3, 0, 9)):
            network = Network(1, neurons, synapses, rule)
            found = self.assert_same(network, [2, 0, 1], [3, 1, 0, 2], [[0], [], [0], [], [], [], []])
            self.assertEqual([row for row in found.spikes if row][:3], [[0], [1], [0]])

    def test_reversed_and_shuffled_orders(self):
        for seed in range(200):
            numbers = Numbers(1000 + seed)
            network = made_network(numbers, seed % 2 == 0)
            stimuli = made_stimuli(numbers, network.inputs, 25)
            neurons, synapses = range(len(network.neurons)), range(len(network.synapses))
            with self.subTest(seed=seed):
                self.assert_same(network, list(reversed(neurons)), list(reversed(synapses)), stimuli)
                self.assert_same(network, numbers.shuffled(neurons), numbers.shuffled(synapses), stimuli)


if __name__ == "__main__":
    unittest.main()

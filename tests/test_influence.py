"""Lags, what agrees in two runs, and the part of a network that matters (points 08.1 to 08.3)."""

import unittest

from made_chips import learning_ring
from made_networks import Numbers, made_network, made_stimuli
from spikehold.influence import kept_neurons, lags, part_of
from spikehold.networks import Network, Rule, Synapse, run
from spikehold.neurons import Neuron


def network_of(inputs, neurons, synapses, rule=None):
    """Return a network of so many equal neurons, with synapses (source, target, delay)."""
    made = [Synapse(source, target, 5, delay) for source, target, delay in synapses]
    return Network(inputs, [Neuron(5)] * neurons, made, rule)


def made_branches(numbers, with_rule):
    """Return a made network with half of its synapses, so that some neurons do not matter to others."""
    network = made_network(numbers, with_rule)
    synapses = [synapse for synapse in network.synapses if numbers.below(3) == 0]
    return Network(network.inputs, network.neurons, synapses, network.rule)


def lags_by_the_words(network):
    """Return the lags by looking at longer and longer chains; one visits no neuron twice before its end."""
    sources = network.inputs + len(network.neurons)
    found = [[None] * len(network.neurons) for _ in range(sources)]
    for source in range(sources):
        ends = {source: 0}
        for _ in range(sources + 1):
            following = {}
            for synapse in network.synapses:
                if synapse.source in ends:
                    total = ends[synapse.source] + synapse.delay
                    target = network.inputs + synapse.target
                    following[target] = min(total, following.get(target, total))
            for target, total in following.items():
                n = target - network.inputs
                found[source][n] = total if found[source][n] is None else min(total, found[source][n])
            ends = following
    return found


class LagsTest(unittest.TestCase):
    def test_example_of_the_document(self):
        synapses = [Synapse(0, 0, 5, 4), Synapse(1, 1, 3, 2), Synapse(0, 1, 1, 9)]
        net = Network(1, [Neuron(5), Neuron(5), Neuron(5)], synapses)
        self.assertEqual(lags(net), [[4, 6, None], [None, 2, None], [None, None, None], [None, None, None]])

    def test_the_least_sum_and_not_the_fewest_synapses(self):
        net = network_of(1, 3, [(0, 2, 9), (0, 0, 2), (1, 1, 3), (2, 2, 3)])
        self.assertEqual(lags(net)[0], [2, 5, 8])
        net = network_of(1, 3, [(0, 2, 8), (0, 0, 2), (1, 1, 3), (2, 2, 4)])
        self.assertEqual(lags(net)[0], [2, 5, 8])

    def test_a_better_chain_that_is_found_later(self):
        # The neuron 1 is reached with 10 at once, and with 3 by way of the neuron 0; the neuron 2 follows it.
        net = network_of(1, 3, [(0, 1, 10), (2, 2, 1), (0, 0, 2), (1, 1, 1)])
        self.assertEqual(lags(net)[0], [2, 3, 4])

    def test_several_synapses_between_the_same_two(self):
        self.assertEqual(lags(network_of(1, 1, [(0, 0, 7), (0, 0, 3), (0, 0, 5)])), [[3], [None]])

    def test_a_neuron_to_itself(self):
        self.assertEqual(lags(network_of(0, 1, [(0, 0, 6)])), [[6]])
        self.assertEqual(lags(network_of(0, 1, [])), [[None]])

    def test_cycles(self):
        net = network_of(1, 3, [(0, 0, 1), (1, 1, 2), (2, 2, 3), (3, 0, 4)])
        self.assertEqual(lags(net), [[1, 3, 6], [9, 2, 5], [7, 9, 3], [4, 6, 9]])

    def test_a_shorter_way_back_than_the_cycle(self):
        net = network_of(0, 2, [(0, 1, 1), (1, 0, 1), (0, 0, 5), (1, 1, 1)])
        self.assertEqual(lags(net), [[2, 1], [1, 1]])

    def test_a_chain_follows_the_direction_of_the_synapses(self):
        self.assertEqual(lags(network_of(0, 2, [(0, 1, 5)])), [[None, 5], [None, None]])

    def test_without_a_chain(self):
        self.assertEqual(lags(network_of(2, 2, [])), [[None, None]] * 4)

    def test_without_neurons_or_inputs(self):
        self.assertEqual(lags(Network(0, [], [])), [])
        self.assertEqual(lags(Network(2, [], [])), [[], []])
        self.assertEqual(lags(network_of(0, 2, [(1, 0, 4)])), [[None, None], [4, None]])

    def test_the_weights_do_not_count(self):
        net = Network(1, [Neuron(5)], [Synapse(0, 0, 0, 3), Synapse(0, 0, -9, 2)])
        self.assertEqual(lags(net)[0], [2])

    def test_a_long_chain(self):
        net = network_of(1, 500, [(n, n, 15) for n in range(500)])
        found = lags(net)
        self.assertEqual(found[0], [15 * (n + 1) for n in range(500)])
        self.assertEqual(found[499], [None] * 499 + [15])

    def test_as_the_words_tell(self):
        for seed in range(120):
            numbers = Numbers(seed)
            network = made_network(numbers, False) if seed % 2 else made_branches(numbers, False)
            self.assertEqual(lags(network), lags_by_the_words(network))

    def test_the_lists_are_new(self):
        net = network_of(2, 2, [])
        found = lags(net)
        self.assertEqual(len({id(row) for row in found}), 4)
        found[0].append(7)
        self.assertEqual(lags(net), [[None, None]] * 4)


class AgreementTest(unittest.TestCase):
    """Two runs whose stimuli differ from a tick on in some inputs agree up to that tick and the least lag."""

    def least_lags(self, network, inputs):
        rows = [row for i, row in enumerate(lags(network)) if i in inputs]
        return [
            min((row[n] for row in rows if row[n] is not None), default=None)
            for n in range(len(network.neurons))
        ]

    def other_stimuli(self, numbers, stimuli, tick, inputs):
        """Return stimuli that differ from a tick on, in these inputs only."""
        other = [list(stimulus) for stimulus in stimuli[:tick]]
        for stimulus in stimuli[tick:]:
            kept = [i for i in stimulus if i not in inputs]
            other.append(sorted(kept + [i for i in inputs if numbers.below(2)]))
        return other

    def spikes_of(self, found, n, before):
        return [n in spiking for spiking in found.spikes[:before]]

    def check(self, with_rule):
        differing, first_ones = 0, 0
        for seed in range(400):
            numbers = Numbers(seed)
            network = made_branches(numbers, with_rule) if seed % 2 else made_network(numbers, with_rule)
            stimuli = made_stimuli(numbers, network.inputs, 24)
            tick = numbers.below(12)
            inputs = [i for i in range(network.inputs) if numbers.below(2)]
            first = run(network, stimuli)
            other = run(network, self.other_stimuli(numbers, stimuli, tick, inputs))
            for n, lag in enumerate(self.least_lags(network, inputs)):
                until = 24 if lag is None else tick + lag
                self.assertEqual(self.spikes_of(first, n, until), self.spikes_of(other, n, until))
                differing += self.spikes_of(first, n, 24) != self.spikes_of(other, n, 24)
                first_ones += self.spikes_of(first, n, until + 1) != self.spikes_of(other, n, until + 1)
        # Without runs that differ, and without some that differ as soon as they may, this would show little.
        self.assertGreater(differing, 100)
        self.assertGreater(first_ones, 20)

    def test_without_a_rule(self):
        self.check(False)

    def test_with_a_rule(self):
        self.check(True)

    def test_the_edge(self):
        net = network_of(2, 2, [(0, 0, 4), (2, 1, 3), (1, 1, 2)])
        self.assertEqual(self.least_lags(net, [0]), [4, 7])
        self.assertEqual(self.least_lags(net, [0, 1]), [4, 2])
        first = run(net, [[]] * 12).spikes
        other = run(net, [[], [], [0]] + [[]] * 9).spikes
        self.assertEqual([first[t] == other[t] for t in range(12)], [t not in (6, 9) for t in range(12)])


class KeptNeuronsTest(unittest.TestCase):
    def net(self):
        return network_of(1, 6, [(0, 0, 1), (1, 1, 1), (2, 2, 1), (3, 1, 1), (5, 3, 1), (6, 6 - 1, 1)])

    def test_example_of_the_document(self):
        synapses = [Synapse(0, 0, 5, 4), Synapse(1, 1, 3, 2), Synapse(0, 1, 1, 9)]
        self.assertEqual(kept_neurons(Network(1, [Neuron(5)] * 3, synapses), [1]), [0, 1])

    def test_none(self):
        self.assertEqual(kept_neurons(self.net(), []), [])
        self.assertEqual(kept_neurons(Network(0, [], []), []), [])

    def test_one(self):
        found = [kept_neurons(self.net(), [n]) for n in range(6)]
        self.assertEqual(found, [[0], [0, 1, 2], [0, 1, 2], [3, 4], [4], [5]])

    def test_several(self):
        self.assertEqual(kept_neurons(self.net(), [5, 0]), [0, 5])
        self.assertEqual(kept_neurons(self.net(), [3, 1]), [0, 1, 2, 3, 4])
        self.assertEqual(kept_neurons(self.net(), [2, 1, 0]), [0, 1, 2])

    def test_all_and_one_twice(self):
        self.assertEqual(kept_neurons(self.net(), [5, 4, 3, 2, 1, 0]), [0, 1, 2, 3, 4, 5])
        self.assertEqual(kept_neurons(self.net(), [4, 4]), [4])

    def test_a_neuron_that_no_synapse_reaches(self):
        self.assertEqual(kept_neurons(network_of(2, 2, []), [1]), [1])

    def test_a_long_chain(self):
        net = network_of(0, 500, [(n, n - 1, 1) for n in range(1, 500)])
        self.assertEqual(kept_neurons(net, [0]), list(range(500)))

    def test_the_sources_that_have_a_lag(self):
        for seed in range(100):
            numbers = Numbers(seed)
            network = made_branches(numbers, seed % 4 == 0)
            wanted = [n for n in range(len(network.neurons)) if numbers.below(4) == 0]
            found = lags(network)
            expected = [
                n for n in range(len(network.neurons))
                if n in wanted or any(found[network.inputs + n][k] is not None for k in wanted)
            ]
            self.assertEqual(kept_neurons(network, wanted), expected)

    def test_what_was_passed_stays_and_the_list_is_new(self):
        wanted = [3, 1]
        found = kept_neurons(self.net(), wanted)
        found.append(9)
        self.assertEqual(wanted, [3, 1])
        alone = [4]
        self.assertIsNot(kept_neurons(self.net(), alone), alone)


class PartTest(unittest.TestCase):
    def test_the_numbers_and_the_order_of_the_synapses(self):
        neurons = [Neuron(1), Neuron(2), Neuron(3, leak=1), Neuron(4, subtract=True)]
        synapses = [
            Synapse(4, 3, 7, 4, True), Synapse(0, 1, 6, 3), Synapse(5, 3, -5, 2), Synapse(1, 3, 4, 1),
            Synapse(5, 0, 3, 1), Synapse(3, 1, 2, 1), Synapse(3, 1, 2, 1), Synapse(5, 2, 1, 15),
        ]
        found = part_of(Network(2, neurons, synapses), [3])
        expected = Network(2, [neurons[2], neurons[3]], [
            Synapse(2, 1, 7, 4, True), Synapse(3, 1, -5, 2), Synapse(1, 1, 4, 1), Synapse(3, 0, 1, 15),
        ])
        self.assertEqual(found, expected)

    def test_none(self):
        rule = Rule(1, 2, 3, -4, 5)
        net = network_of(3, 2, [(0, 0, 1), (3, 1, 1)], rule)
        self.assertEqual(part_of(net, []), Network(3, [], [], rule))

    def test_all_inputs_stay(self):
        net = network_of(3, 2, [(1, 0, 1), (2, 1, 1)])
        self.assertEqual(part_of(net, [1]), network_of(3, 1, [(2, 0, 1)]))

    def test_all_neurons(self):
        for with_rule in (False, True):
            net = made_network(Numbers(11), with_rule)
            self.assertEqual(part_of(net, list(range(len(net.neurons)))), net)

    def test_several(self):
        net = network_of(1, 4, [(0, 3, 1), (2, 2, 2), (4, 1, 3), (3, 0, 4)])
        self.assertEqual(kept_neurons(net, [3, 2]), [1, 2, 3])
        self.assertEqual(part_of(net, [3, 2]), network_of(1, 3, [(0, 2, 1), (1, 1, 2), (3, 0, 3)]))

    def test_its_rule_is_that_of_the_network(self):
        net = learning_ring()
        self.assertEqual(part_of(net, [0]).rule, net.rule)
        self.assertIsNone(part_of(network_of(1, 1, []), [0]).rule)

    def test_the_kept_neurons_spike_as_in_the_network(self):
        spikes, left_out, changed = 0, 0, 0
        for seed in range(400):
            numbers = Numbers(seed)
            network = made_branches(numbers, seed % 2 == 0)
            wanted = [n for n in range(len(network.neurons)) if numbers.below(3) == 0]
            stimuli = made_stimuli(numbers, network.inputs, 25)
            kept, part = kept_neurons(network, wanted), part_of(network, wanted)
            whole, found = run(network, stimuli), run(part, stimuli)
            expected = [[kept.index(n) for n in spiking if n in kept] for spiking in whole.spikes]
            self.assertEqual(found.spikes, expected)
            weights = [w for w, synapse in zip(whole.weights, network.synapses) if synapse.target in kept]
            self.assertEqual(found.weights, weights)
            spikes += sum(len(row) for row in expected)
            left_out += len(network.neurons) - len(kept)
            changed += weights != [synapse.weight for synapse in part.synapses]
        self.assertGreater(spikes, 300)
        self.assertGreater(left_out, 100)
        self.assertGreater(changed, 20)

    def test_the_part_of_the_part_is_the_part(self):
        for seed in range(40):
            network = made_branches(Numbers(seed), True)
            wanted = [0, len(network.neurons) - 1]
            kept, part = kept_neurons(network, wanted), part_of(network, wanted)
            self.assertEqual(part_of(part, [kept.index(n) for n in wanted]), part)

    def test_what_was_passed_stays(self):
        network, wanted = learning_ring(), [1]
        part = part_of(network, wanted)
        part.neurons.append(Neuron(7))
        part.synapses.clear()
        self.assertEqual((network, wanted), (learning_ring(), [1]))


if __name__ == "__main__":
    unittest.main()

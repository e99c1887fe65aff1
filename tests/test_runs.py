"""Stimuli, runs, and what happens in each tick (points 00.1, 00.3, 02.2, 02.3 and 02.4)."""

import copy
import unittest

from made_networks import Numbers, made_network, made_stimuli, run_by_the_words
from spikehold.networks import Network, Rule, Run, Synapse, run
from spikehold.neurons import Neuron


def stimuli_of(ticks, spikes):
    """Return stimuli with so many ticks, from a dict of the inputs that spike in some of them."""
    return [list(spikes.get(tick, [])) for tick in range(ticks)]


class SizesTest(unittest.TestCase):
    def test_no_ticks(self):
        network = Network(1, [Neuron(1)], [Synapse(0, 0, 5, 1)])
        self.assertEqual(run(network, []), Run([], [5]))

    def test_no_neurons(self):
        self.assertEqual(run(Network(2, [], []), [[0], [], [0, 1]]), Run([[], [], []], []))

    def test_no_inputs(self):
        network = Network(0, [Neuron(1), Neuron(1)], [Synapse(0, 1, 5, 1), Synapse(1, 0, 5, 1)])
        self.assertEqual(run(network, [[], [], []]), Run([[], [], []], [5, 5]))

    def test_nothing_at_all(self):
        self.assertEqual(run(Network(0, [], []), []), Run([], []))
        self.assertEqual(run(Network(0, [], []), [[]]), Run([[]], []))

    def test_no_synapses(self):
        self.assertEqual(run(Network(1, [Neuron(1)], []), [[0], [0]]), Run([[], []], []))

    def test_a_run_has_as_many_ticks_as_the_stimuli(self):
        network = Network(1, [Neuron(1)], [Synapse(0, 0, 5, 1)])
        for ticks in (1, 2, 30):
            self.assertEqual(run(network, [[0]] * ticks).spikes, [[]] + [[0]] * (ticks - 1))

    def test_the_largest_size(self):
        neurons = [Neuron(5)] * 500
        synapses = [Synapse(15, 0, 5, 1)] + [Synapse(16 + n, n + 1, 5, 1) for n in range(499)]
        found = run(Network(16, neurons, synapses), [[15]] + [[]] * 500)
        self.assertEqual(found.spikes, [[]] + [[n] for n in range(500)])


    def test_somewhat_beyond_the_limits_no_error_is_raised(self):
        neurons = [Neuron(5, leak=16, refractory=16)] * 501
        synapses = [Synapse(16, 500, (1 << 20) + 1, 16, True)]
        found = run(Network(17, neurons, synapses, Rule(1001, 1001, 101, 0, 1 << 21)), [[16]] + [[]] * 16)
        self.assertEqual(found, Run([[]] * 16 + [[500]], [(1 << 20) + 1002]))


class SpikesTest(unittest.TestCase):
    def test_example_of_the_document(self):
        chain = Network(1, [Neuron(5), Neuron(5)], [Synapse(0, 0, 5, 1), Synapse(1, 1, 3, 2)])
        found = run(chain, [[0], [0], [], [], []])
        self.assertEqual(found.spikes, [[], [0], [0], [], [1]])
        self.assertEqual(found.weights, [5, 3])

    def test_several_synapses_from_one_source_to_one_target(self):
        synapses = [Synapse(0, 0, 2, 1), Synapse(0, 0, 3, 1), Synapse(0, 0, 3, 1)]
        self.assertEqual(run(Network(1, [Neuron(8)], synapses), [[0], []]).spikes, [[], [0]])
        self.assertEqual(run(Network(1, [Neuron(9)], synapses), [[0], []]).spikes, [[], []])

    def test_such_synapses_with_different_delays(self):
        synapses = [Synapse(0, 0, 5, 1), Synapse(0, 0, 5, 3)]
        self.assertEqual(run(Network(1, [Neuron(5)], synapses), [[0], [], [], [], []]).spikes, [[], [0], [], [0], []])

    def test_delays_from_1_to_15(self):
        for delay in range(1, 16):
            network = Network(1, [Neuron(5)], [Synapse(0, 0, 5, delay)])
            found = run(network, stimuli_of(20, {2: [0]})).spikes
            self.assertEqual(found, [[0] if tick == 2 + delay else [] for tick in range(20)])

    def test_delays_of_spikes_of_neurons(self):
        for delay in (1, 15):
            network = Network(1, [Neuron(5), Neuron(5)], [Synapse(0, 0, 5, 1), Synapse(1, 1, 5, delay)])
            found = run(network, stimuli_of(20, {0: [0]})).spikes
            expected = [[] for _ in range(20)]
            expected[1], expected[1 + delay] = [0], [1]
            self.assertEqual(found, expected)

    def test_a_synapse_from_a_neuron_to_itself(self):
        network = Network(1, [Neuron(3)], [Synapse(0, 0, 3, 1), Synapse(1, 0, 3, 2)])
        self.assertEqual(run(network, stimuli_of(7, {0: [0]})).spikes, [[], [0], [], [0], [], [0], []])

    def test_sources_are_the_inputs_and_then_the_neurons(self):
        synapses = [Synapse(1, 0, 5, 1), Synapse(2, 1, 5, 1), Synapse(3, 2, 5, 1)]
        network = Network(2, [Neuron(5), Neuron(5), Neuron(5)], synapses)
        self.assertEqual(run(network, stimuli_of(5, {0: [0]})).spikes, [[], [], [], [], []])
        self.assertEqual(run(network, stimuli_of(5, {0: [1]})).spikes, [[], [0], [1], [2], []])

    def test_several_neurons_spike_ascending(self):
        synapses = [Synapse(0, n, 5, 1) for n in (4, 2, 3, 0)]
        self.assertEqual(run(Network(1, [Neuron(5)] * 5, synapses), [[0], []]).spikes, [[], [0, 2, 3, 4]])

    def test_the_state_is_kept_from_tick_to_tick(self):
        neuron = Neuron(10, leak=1, refractory=2, floor=-3, subtract=True)
        network = Network(2, [neuron], [Synapse(0, 0, 13, 1), Synapse(1, 0, -9, 1)])
        # Potentials after the ticks: 0, 3 (spike), 15, 21, 14 (spike), -2, -3 (floor), 2 (spike).
        stimuli = [[0], [0], [0], [0], [1], [1], [0], []]
        self.assertEqual(run(network, stimuli).spikes, [[], [0], [], [], [0], [], [], [0]])

    def test_negative_weights(self):
        network = Network(2, [Neuron(5)], [Synapse(0, 0, 5, 1), Synapse(1, 0, -1, 1)])
        self.assertEqual(run(network, [[0, 1], [0], []]).spikes, [[], [], [0]])

    def test_greatest_weights(self):
        network = Network(1, [Neuron(1 << 20)], [Synapse(0, 0, 1 << 20, 1), Synapse(0, 0, -(1 << 20), 2)])
        self.assertEqual(run(network, [[0], [], [0], []]).spikes, [[], [0], [], [0]])


class LearningTest(unittest.TestCase):
    """The inputs 0 and 1 lead to the one neuron. The weight of the synapse from the input 1 is observed."""

    def weight_after(self, rule, stimuli, weight=5, plastic=True):
        synapses = [Synapse(0, 0, 100, 1), Synapse(1, 0, weight, 1, plastic)]
        found = run(Network(2, [Neuron(100)], synapses, rule), stimuli)
        self.assertEqual(found.weights[0], 100)
        return found.weights[1]

    def test_a_loss_at_the_edge_of_the_window(self):
        rule = Rule(0, 3, 2, -100, 100)
        # The neuron spikes in the tick 1; the arrivals are 1, 2 and 3 ticks later.
        self.assertEqual(self.weight_after(rule, stimuli_of(6, {0: [0], 1: [1]})), 2)
        self.assertEqual(self.weight_after(rule, stimuli_of(6, {0: [0], 2: [1]})), 2)
        self.assertEqual(self.weight_after(rule, stimuli_of(6, {0: [0], 3: [1]})), 5)

    def test_no_loss_before_the_first_spike_nor_in_its_tick(self):
        rule = Rule(0, 3, 100, -100, 100)
        self.assertEqual(self.weight_after(rule, stimuli_of(6, {0: [1]})), 5)
        self.assertEqual(self.weight_after(rule, stimuli_of(6, {0: [0, 1]})), 5)

    def test_the_last_spike_counts(self):
        rule = Rule(0, 3, 2, -100, 100)
        self.assertEqual(self.weight_after(rule, stimuli_of(9, {0: [0], 4: [0], 6: [1]})), 2)
        self.assertEqual(self.weight_after(rule, stimuli_of(9, {0: [0], 4: [0], 7: [1]})), 5)

    def test_a_gain_at_the_edge_of_the_window(self):
        rule = Rule(4, 0, 2, -100, 100)
        # The synapse arrives in the tick 1; the neuron spikes 0, 1, 2 and 3 ticks later.
        self.assertEqual(self.weight_after(rule, stimuli_of(6, {0: [0, 1]})), 9)
        self.assertEqual(self.weight_after(rule, stimuli_of(6, {0: [1], 1: [0]})), 9)
        self.assertEqual(self.weight_after(rule, stimuli_of(6, {0: [1], 2: [0]})), 9)
        self.assertEqual(self.weight_after(rule, stimuli_of(6, {0: [1], 3: [0]})), 5)

    def test_no_gain_without_an_arrival(self):
        rule = Rule(4, 0, 100, -100, 100)
        self.assertEqual(self.weight_after(rule, stimuli_of(6, {0: [0]})), 5)
        self.assertEqual(self.weight_after(rule, stimuli_of(6, {0: [0], 1: [1]})), 5)

    def test_the_last_arrival_counts(self):
        rule = Rule(4, 0, 2, -100, 100)
        self.assertEqual(self.weight_after(rule, stimuli_of(9, {0: [1], 4: [1], 6: [0]})), 9)
        self.assertEqual(self.weight_after(rule, stimuli_of(9, {0: [1], 4: [1], 7: [0]})), 5)

    def test_each_spike_in_the_window_gains(self):
        rule = Rule(4, 0, 2, -100, 100)
        self.assertEqual(self.weight_after(rule, stimuli_of(9, {0: [0, 1], 1: [0], 2: [0], 3: [0]})), 17)

    def test_window_0(self):
        rule = Rule(4, 3, 0, -100, 100)
        self.assertEqual(self.weight_after(rule, stimuli_of(6, {0: [0], 1: [1]})), 5)
        self.assertEqual(self.weight_after(rule, stimuli_of(6, {0: [0, 1]})), 9)
        self.assertEqual(self.weight_after(rule, stimuli_of(6, {0: [1], 1: [0]})), 5)

    def test_window_100(self):
        rule = Rule(4, 3, 100, -100, 100)
        self.assertEqual(self.weight_after(rule, stimuli_of(110, {0: [0], 100: [1]})), 2)
        self.assertEqual(self.weight_after(rule, stimuli_of(110, {0: [0], 101: [1]})), 5)
        self.assertEqual(self.weight_after(rule, stimuli_of(110, {0: [1], 100: [0]})), 9)
        self.assertEqual(self.weight_after(rule, stimuli_of(110, {0: [1], 101: [0]})), 5)

    def test_a_loss_in_the_tick_in_which_a_gain_follows(self):
        both = stimuli_of(4, {0: [0], 1: [0, 1]})
        self.assertEqual(self.weight_after(Rule(4, 3, 5, -100, 100), both), 6)
        # With the bounds so near, the order tells: 5 - 3 is cut to 4, then 4 + 4 is 8.
        self.assertEqual(self.weight_after(Rule(4, 3, 5, 4, 100), both), 8)
        # 5 - 3 is 2, and 2 + 4 is 6; a gain before the loss would be cut to 7 and end at 4.
        self.assertEqual(self.weight_after(Rule(4, 3, 5, -100, 7), both), 6)

    def test_a_loss_ends_at_the_least_weight(self):
        stimuli = stimuli_of(9, {0: [0], 1: [1], 2: [1], 3: [1]})
        self.assertEqual(self.weight_after(Rule(0, 3, 9, -100, 100), stimuli), -4)
        self.assertEqual(self.weight_after(Rule(0, 3, 9, -3, 100), stimuli), -3)
        self.assertEqual(self.weight_after(Rule(0, 3, 9, 5, 100), stimuli), 5)

    def test_a_gain_ends_at_the_most_weight(self):
        stimuli = stimuli_of(9, {0: [0, 1], 1: [0], 2: [0]})
        self.assertEqual(self.weight_after(Rule(4, 0, 9, -100, 100), stimuli), 17)
        self.assertEqual(self.weight_after(Rule(4, 0, 9, -100, 16), stimuli), 16)
        self.assertEqual(self.weight_after(Rule(4, 0, 9, -100, 5), stimuli), 5)

    def test_a_synapse_that_does_not_arrive_keeps_its_weight(self):
        # The neuron spikes in the ticks 1 and 2, within the window; only arrivals lose.
        self.assertEqual(self.weight_after(Rule(0, 3, 100, -100, 100), stimuli_of(9, {0: [0], 1: [0]})), 5)

    def test_a_synapse_that_is_not_plastic_beside_a_rule(self):
        rule = Rule(4, 3, 5, -100, 100)
        for stimuli in (stimuli_of(4, {0: [0], 1: [1]}), stimuli_of(4, {0: [0, 1]})):
            self.assertEqual(self.weight_after(rule, stimuli, plastic=False), 5)
            self.assertNotEqual(self.weight_after(rule, stimuli), 5)

    def test_a_fixed_weight_may_lie_outside_the_bounds_of_the_rule(self):
        rule = Rule(4, 3, 5, 0, 10)
        self.assertEqual(self.weight_after(rule, stimuli_of(4, {0: [0, 1], 1: [1]}), weight=-50, plastic=False), -50)

    def test_without_a_rule_no_weight_changes(self):
        for stimuli in (stimuli_of(4, {0: [0], 1: [1]}), stimuli_of(4, {0: [0, 1]})):
            self.assertEqual(self.weight_after(None, stimuli), 5)

    def test_the_weight_before_the_loss_counts(self):
        rule = Rule(0, 5, 10, 0, 100)
        network = Network(2, [Neuron(10)], [Synapse(0, 0, 10, 1), Synapse(1, 0, 10, 1, True)], rule)
        found = run(network, stimuli_of(4, {0: [0], 1: [1], 2: [1]}))
        # In the tick 2 the weight is still 10; in the tick 3 it is 5.
        self.assertEqual(found, Run([[], [0], [0], []], [10, 0]))

    def test_a_changed_weight_counts_in_later_ticks(self):
        rule = Rule(5, 0, 10, 0, 100)
        network = Network(2, [Neuron(10)], [Synapse(0, 0, 10, 1), Synapse(1, 0, 5, 1, True)], rule)
        found = run(network, stimuli_of(4, {0: [0, 1], 2: [1]}))
        self.assertEqual(found, Run([[], [0], [], [0]], [10, 15]))

    def test_a_loss_in_a_tick_in_which_the_neuron_rests(self):
        rule = Rule(4, 3, 5, -100, 100)
        synapses = [Synapse(0, 0, 100, 1), Synapse(1, 0, 5, 1, True)]
        found = run(Network(2, [Neuron(100, refractory=5)], synapses, rule), [[0], [0, 1], [], []])
        self.assertEqual(found, Run([[], [0], [], []], [100, 2]))

    def test_only_the_target_counts(self):
        # The neuron 1 spikes; the synapse to the neuron 0 neither loses nor gains by that.
        rule = Rule(4, 3, 50, -100, 100)
        synapses = [Synapse(0, 1, 10, 1), Synapse(0, 0, 1, 1, True), Synapse(2, 0, 1, 1, True)]
        found = run(Network(1, [Neuron(50), Neuron(10)], synapses, rule), [[0], [0], [0], []])
        self.assertEqual(found, Run([[], [1], [1], [1]], [10, 1, 1]))

    def test_a_plastic_synapse_from_a_neuron_to_itself(self):
        rule = Rule(2, 1, 3, 0, 9)
        network = Network(1, [Neuron(3)], [Synapse(0, 0, 3, 1), Synapse(1, 0, 3, 2, True)], rule)
        # It arrives in the ticks 3 and 5, two ticks after a spike, and makes the next spike.
        self.assertEqual(run(network, stimuli_of(6, {0: [0]})), Run([[], [0], [], [0], [], [0]], [3, 5]))


class NothingIsChangedTest(unittest.TestCase):
    def test_network_and_stimuli_are_unchanged_and_a_second_run_is_equal(self):
        for seed in range(40):
            numbers = Numbers(seed)
            network = made_network(numbers, seed % 2 == 0)
            stimuli = made_stimuli(numbers, network.inputs, 20)
            network_before, stimuli_before = copy.deepcopy(network), copy.deepcopy(stimuli)
            first = run(network, stimuli)
            self.assertEqual(network, network_before)
            self.assertEqual(stimuli, stimuli_before)
            self.assertEqual(run(network, stimuli), first)

    def test_the_lists_that_are_returned_are_new(self):
        network = Network(1, [Neuron(5)], [Synapse(0, 0, 5, 1)])
        stimuli = [[0], [], []]
        first = run(network, stimuli)
        for spikes in first.spikes:
            spikes.append(9)
        first.weights[0] = 77
        self.assertEqual(stimuli, [[0], [], []])
        self.assertEqual(run(network, stimuli), Run([[], [0], []], [5]))

    def test_kinds_of_values(self):
        found = run(Network(1, [Neuron(5)], [Synapse(0, 0, 5, 1)]), [[0], []])
        self.assertIs(type(found), Run)
        self.assertIs(type(found.spikes), list)
        self.assertEqual([type(spikes) for spikes in found.spikes], [list, list])
        self.assertIs(type(found.weights), list)


class ManyRunsTest(unittest.TestCase):
    def test_runs_are_as_the_words_tell(self):
        spikes, changes = 0, 0
        for seed in range(300):
            numbers = Numbers(seed)
            network = made_network(numbers, seed % 3 > 0)
            stimuli = made_stimuli(numbers, network.inputs, 25)
            found = run(network, stimuli)
            with self.subTest(seed=seed):
                self.assertEqual((found.spikes, found.weights), run_by_the_words(network, stimuli))
            spikes += sum(len(row) for row in found.spikes)
            changes += found.weights != [synapse.weight for synapse in network.synapses]
        # These networks would show nothing if they were quiet.
        self.assertGreater(spikes, 1000)
        self.assertGreater(changes, 100)


if __name__ == "__main__":
    unittest.main()

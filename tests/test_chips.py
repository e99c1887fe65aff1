"""Running a chip: its spikes, its weights and its overruns (points 05.1 to 05.4)."""

import copy
import unittest

from made_chips import (
    chain, chip_run_by_the_words, learning_ring, made_chip, made_mapping, weight_of_each_row,
)
from made_networks import Numbers, made_network, made_stimuli
from spikehold.chips import ChipRun, ChipState, packets_of, run_chip
from spikehold.mapping import Chip, Mapping, enough_cycles, row_of, simple_mapping
from spikehold.mesh import Mesh, deliver
from spikehold.networks import Network, Rule, Synapse, run
from spikehold.neurons import Neuron


def cycles_of_ticks(network, chip, mapping, stimuli):
    """Return for each tick of a run of the network the cycles that `deliver` needs for its packets."""
    cycles = []
    for stimulus, spiking in zip(stimuli, run(network, stimuli).spikes):
        sources = stimulus + [network.inputs + n for n in spiking]
        cycles.append(deliver(chip.mesh, packets_of(network, mapping, sources))[0])
    return cycles


def pairs_of_rows(mapping, weights):
    """Return for each core the sorted pairs of a row and its weight at the end."""
    return [sorted(zip(rows, told)) for rows, told in zip(mapping.rows, weights)]


class ChipRunTest(unittest.TestCase):
    def test_attributes(self):
        found = ChipRun([[], [0]], [[5], []], None)
        self.assertEqual((found.spikes, found.weights, found.overrun), ([[], [0]], [[5], []], None))
        found = ChipRun([[], [0]], None, 1)
        self.assertEqual((found.spikes, found.weights, found.overrun), ([[], [0]], None, 1))

    def test_names_of_the_arguments(self):
        self.assertEqual(ChipRun(spikes=[[]], weights=[[5]], overrun=None), ChipRun([[]], [[5]], None))

    def test_the_lists_are_copied(self):
        spikes, weights = [[], [0]], [[5], []]
        found = ChipRun(spikes, weights, None)
        spikes.append([1])
        weights.clear()
        self.assertEqual(found, ChipRun([[], [0]], [[5], []], None))


class PacketsTest(unittest.TestCase):
    def test_sources_in_order_and_cores_in_the_order_of_the_route(self):
        network = Network(2, [Neuron(5)] * 2, [])
        mapping = Mapping([3, 1], [2, 0], [[1, 0, 3], [], [2, 1], [0]], [[]] * 4)
        self.assertEqual(packets_of(network, mapping, [0, 1, 2, 3]),
                         [(2, 1, 0), (2, 0, 0), (2, 3, 0), (3, 2, 2), (3, 1, 2), (1, 0, 3)])
        self.assertEqual(packets_of(network, mapping, [2]), [(3, 2, 2), (3, 1, 2)])
        self.assertEqual(packets_of(network, mapping, [1]), [])
        self.assertEqual(packets_of(network, mapping, []), [])

    def test_what_was_passed_stays(self):
        sources, mapping = [0, 1], simple_mapping(chain(), Chip(Mesh(2, 1, 1), 1, 10))
        before = copy.deepcopy(mapping)
        self.assertEqual(packets_of(chain(), mapping, sources), [(0, 0, 0), (0, 1, 1)])
        self.assertEqual([sources, mapping], [[0, 1], before])


class RunTest(unittest.TestCase):
    def test_the_example(self):
        chip = Chip(Mesh(2, 1, 1), 1, 2)
        found = run_chip(chain(), chip, simple_mapping(chain(), chip), [[0], [0], [], [], []])
        self.assertEqual(found, ChipRun([[], [0]], None, 1))

    def test_with_one_cycle_more(self):
        # In the tick 1, the packets of the input 0 and of the neuron 0 start at the same core.
        for cycles in (4, 5, 100000):
            chip = Chip(Mesh(2, 1, 1), 1, cycles)
            found = run_chip(chain(), chip, simple_mapping(chain(), chip), [[0], [0], [], [], []])
            expected = None if cycles > 4 else 1
            self.assertEqual(found.overrun, expected)
        self.assertEqual(found, ChipRun([[], [0], [0], [], [1]], [[5], [3]], None))

    def test_no_ticks_and_no_neurons(self):
        chip = Chip(Mesh(2, 1, 1), 1, 1)
        self.assertEqual(run_chip(chain(), chip, simple_mapping(chain(), chip), []), ChipRun([], [[5], [3]], None))
        empty = Network(1, [], [])
        found = run_chip(empty, chip, simple_mapping(empty, chip), [[0], [], [0]])
        self.assertEqual(found, ChipRun([[], [], []], [[], []], None))

    def test_all_on_one_core(self):
        network = learning_ring()
        chip = Chip(Mesh(1, 1, 1), 3, 1000)
        stimuli = [[0], [1], [0, 1], [], [0]] * 8
        expected = run(network, stimuli)
        found = run_chip(network, chip, simple_mapping(network, chip), stimuli)
        self.assertEqual(found, ChipRun(expected.spikes, [expected.weights], None))
        self.assertNotEqual(expected.weights, [synapse.weight for synapse in network.synapses])

    def test_weights_stand_with_their_rows(self):
        network = learning_ring()
        chip = Chip(Mesh(3, 1, 1), 1, 1000)
        stimuli = [[0], [1], [0, 1], [], [0]] * 8
        simple = simple_mapping(network, chip)
        mapping = Mapping(simple.homes, simple.gates, simple.routes, [rows[::-1] for rows in simple.rows])
        weights = run(network, stimuli).weights
        expected = [[weights[k] for k, one in enumerate(network.synapses) if one.target == core] for core in range(3)]
        self.assertEqual(run_chip(network, chip, simple, stimuli).weights, expected)
        self.assertEqual(run_chip(network, chip, mapping, stimuli).weights, [row[::-1] for row in expected])

    def test_a_needless_packet_changes_nothing_but_the_cycles(self):
        chip = Chip(Mesh(2, 1, 1), 1, 100)
        simple = simple_mapping(chain(), chip)
        mapping = Mapping(simple.homes, simple.gates, [[1, 0], [0, 1], [1, 0]], simple.rows)
        stimuli = [[0], [0], [], [], []]
        self.assertEqual(run_chip(chain(), chip, mapping, stimuli), run_chip(chain(), chip, simple, stimuli))
        self.assertGreater(cycles_of_ticks(chain(), chip, mapping, stimuli)[0],
                           cycles_of_ticks(chain(), chip, simple, stimuli)[0])

    def test_kinds_of_values(self):
        chip = Chip(Mesh(2, 1, 1), 1, 100)
        found = run_chip(chain(), chip, simple_mapping(chain(), chip), [[0], []])
        self.assertIs(type(found), ChipRun)
        self.assertEqual([type(value) for value in (found.spikes, found.weights)], [list, list])
        self.assertEqual([type(value) for value in found.spikes + found.weights], [list] * 4)

    def test_nothing_that_was_passed_changes_and_a_second_run_is_equal(self):
        for seed in range(60):
            numbers = Numbers(seed)
            network = made_network(numbers, seed % 2 == 0)
            chip = made_chip(numbers, network)
            mapping = made_mapping(numbers, network, chip)
            passed = [network, chip, mapping, made_stimuli(numbers, network.inputs, 15)]
            before = copy.deepcopy(passed)
            first = run_chip(*passed)
            self.assertEqual(passed, before)
            self.assertEqual(run_chip(*passed), first)


class TickTest(unittest.TestCase):
    def test_ticks_and_weights(self):
        chip = Chip(Mesh(2, 1, 1), 1, 100)
        state = ChipState(chain(), chip, simple_mapping(chain(), chip))
        self.assertEqual(state.weights(), [[5], [3]])
        told = [state.tick(stimulus) for stimulus in ([0], [0], [], [], [])]
        self.assertEqual(told, [([], False), ([0], False), ([0], False), ([], False), ([1], False)])
        self.assertEqual({type(pair) for pair in told}, {tuple})
        self.assertEqual([type(value) for value in told[1]], [list, bool])

    def test_an_overrun(self):
        chip = Chip(Mesh(2, 1, 1), 1, 2)
        state = ChipState(chain(), chip, simple_mapping(chain(), chip))
        self.assertEqual([state.tick([0]), state.tick([0])], [([], False), ([0], True)])

    def test_the_stimulus_stays_and_lists_are_new(self):
        chip = Chip(Mesh(3, 1, 1), 1, 1000)
        network, stimulus = learning_ring(), [0, 1]
        mapping = simple_mapping(network, chip)
        one, other = ChipState(network, chip, mapping), ChipState(network, chip, mapping)
        for _ in range(20):
            spiking, overrun = one.tick(stimulus)
            self.assertEqual((spiking, overrun), other.tick([0, 1]))
            self.assertEqual(stimulus, [0, 1])
            spiking.append(7)
            told = one.weights()
            self.assertEqual(told, other.weights())
            told[0][0] = 99
            told.clear()
        self.assertEqual(mapping, simple_mapping(network, chip))

    def test_weights_after_each_tick(self):
        network, chip = learning_ring(), Chip(Mesh(3, 1, 2), 1, 1000)
        mapping = simple_mapping(network, chip)
        stimuli = [[0], [1], [0, 1], [], [0]] * 6
        state = ChipState(network, chip, mapping)
        for tick, stimulus in enumerate(stimuli):
            state.tick(stimulus)
            expected = run_chip(network, chip, mapping, stimuli[:tick + 1])
            self.assertEqual(state.weights(), expected.weights)


class OverrunTest(unittest.TestCase):
    def test_in_the_first_tick(self):
        chip = Chip(Mesh(2, 1, 1), 1, 1)
        found = run_chip(chain(), chip, simple_mapping(chain(), chip), [[0], [0], []])
        self.assertEqual(found, ChipRun([[]], None, 0))

    def test_in_the_last_tick(self):
        chip = Chip(Mesh(2, 1, 1), 1, 2)
        mapping = simple_mapping(chain(), chip)
        self.assertEqual(run_chip(chain(), chip, mapping, [[0], [0]]), ChipRun([[], [0]], None, 1))
        self.assertEqual(run_chip(chain(), chip, mapping, [[0]]), ChipRun([[]], [[5], [3]], None))

    def test_a_tick_is_overrun_exactly_if_deliver_needs_more_cycles(self):
        overruns = set()
        for seed in range(150):
            numbers = Numbers(seed)
            network = made_network(numbers, seed % 2 == 0)
            chip = made_chip(numbers, network)
            mapping = made_mapping(numbers, network, chip)
            stimuli = made_stimuli(numbers, network.inputs, 15)
            needed = cycles_of_ticks(network, chip, mapping, stimuli)
            expected = run(network, stimuli)
            for cycles in sorted(set(needed) | {max(needed) + 1}):
                found = run_chip(network, Chip(chip.mesh, chip.slots, cycles), mapping, stimuli)
                first = min((tick for tick, many in enumerate(needed) if many > cycles), default=None)
                self.assertEqual(found.overrun, first)
                self.assertEqual(found.spikes, expected.spikes if first is None else expected.spikes[:first + 1])
                self.assertEqual(found.weights is None, first is not None)
                overruns.add(first)
        # Overruns in the first tick, in later ones and none at all have been seen.
        self.assertTrue({None, 0, 1, 5, 10} <= overruns)


class ManyRunsTest(unittest.TestCase):
    def test_runs_are_as_the_words_tell(self):
        spikes, changes, overruns = 0, 0, 0
        for seed in range(300):
            numbers = Numbers(seed)
            network = made_network(numbers, seed % 3 > 0)
            chip = made_chip(numbers, network)
            mapping = made_mapping(numbers, network, chip)
            stimuli = made_stimuli(numbers, network.inputs, 25)
            found = run_chip(network, chip, mapping, stimuli)
            told, weights, overrun = chip_run_by_the_words(network, chip, mapping, stimuli)
            with self.subTest(seed=seed):
                self.assertEqual((found.spikes, found.overrun), (told, overrun))
                if overrun is None:
                    self.assertEqual(pairs_of_rows(mapping, found.weights), weight_of_each_row(network, mapping, weights))
                else:
                    self.assertIsNone(found.weights)
            spikes += sum(len(row) for row in found.spikes)
            changes += overrun is None and weights != [synapse.weight for synapse in network.synapses]
            overruns += overrun is not None
        # These runs would show little if nothing happened in them.
        self.assertGreater(spikes, 1000)
        self.assertGreater(changes, 50)
        self.assertGreater(overruns, 10)

    def test_the_spikes_do_not_depend_on_the_mapping(self):
        for seed in range(60):
            numbers = Numbers(seed)
            network = made_network(numbers, seed % 2 == 0)
            chip = Chip(Mesh(2, 2, 1), 8, 100000)
            stimuli = made_stimuli(numbers, network.inputs, 20)
            expected = run(network, stimuli)
            for mapping in (simple_mapping(network, chip), made_mapping(numbers, network, chip)):
                found = run_chip(network, chip, mapping, stimuli)
                self.assertEqual((found.spikes, found.overrun), (expected.spikes, None))


def network_in_which_all_spike(inputs, neurons, rule):
    """Return a network in which all neurons spike in the tick after the input 0 has spiked."""
    synapses = [Synapse(0, n, 9, 1, True) for n in range(neurons)]
    synapses += [Synapse(inputs + n, (n * n + 1) % neurons, 1, 1 + n % 15) for n in range(neurons)]
    synapses += [Synapse(i, (i * 5) % neurons, 1, 2) for i in range(inputs)]
    return Network(inputs, [Neuron(9)] * neurons, synapses, rule)


class EnoughCyclesTest(unittest.TestCase):
    def test_no_tick_is_overrun_if_all_sources_spike_at_once(self):
        for seed in range(80):
            numbers = Numbers(seed)
            network = network_in_which_all_spike(numbers.between(1, 16), numbers.between(1, 20), Rule(1, 1, 5, 9, 20))
            chip = made_chip(numbers, network)
            mapping = made_mapping(numbers, network, chip)
            enough = Chip(chip.mesh, chip.slots, enough_cycles(network, chip, mapping))
            found = run_chip(network, enough, mapping, [list(range(network.inputs))] * 3)
            self.assertIsNone(found.overrun)
            self.assertEqual(found.spikes[1], list(range(len(network.neurons))))

    def test_one_source_needs_all_of_them(self):
        # With room 1, each packet enters only when the one before it has left the core.
        network, mesh = Network(1, [Neuron(5)], [Synapse(0, 0, 5, 1)]), Mesh(4, 1, 1)
        mapping = Mapping([3], [0], [[3], []], [[], [], [], [row_of(network.synapses[0])]])
        enough = enough_cycles(network, Chip(mesh, 1, 1), mapping)
        self.assertEqual(enough, 5)
        self.assertIsNone(run_chip(network, Chip(mesh, 1, enough), mapping, [[0]]).overrun)
        self.assertEqual(run_chip(network, Chip(mesh, 1, enough - 1), mapping, [[0]]).overrun, 0)

    def test_many_neurons_on_a_large_chip(self):
        network = network_in_which_all_spike(16, 200, None)
        mesh = Mesh(8, 8, 1)
        mapping = simple_mapping(network, Chip(mesh, 4, 1))
        chip = Chip(mesh, 4, enough_cycles(network, Chip(mesh, 4, 1), mapping))
        stimuli = [list(range(16))] * 3
        found = run_chip(network, chip, mapping, stimuli)
        self.assertEqual((found.spikes, found.overrun), (run(network, stimuli).spikes, None))
        self.assertEqual(found.spikes[1], list(range(200)))


if __name__ == "__main__":
    unittest.main()

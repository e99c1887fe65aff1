"""Saving and restoring a chip between two ticks (point 05.5)."""

import copy
import unittest

from made_chips import learning_ring, made_chip, made_mapping
from made_networks import Numbers, made_network, made_stimuli
from spikehold.chips import ChipState, restored, run_chip
from spikehold.mapping import Chip, simple_mapping
from spikehold.mesh import Mesh
from spikehold.networks import Network, Rule, Synapse
from spikehold.neurons import Neuron


def kinds_in(value):
    """Return the classes of all values in a saved state."""
    if type(value) is tuple:
        return {tuple}.union(*[kinds_in(one) for one in value])
    return {type(value)}


def gone_on(state, stimuli):
    """Return all that a chip tells in the ticks with these stimuli, up to an overrun."""
    told = []
    for stimulus in stimuli:
        told.append((state.tick(stimulus), state.weights()))
        if told[-1][0][1]:
            break
    return told


def chip_after(network, chip, mapping, stimuli):
    """Return a chip after the ticks with these stimuli, or None if one of them was overrun."""
    state = ChipState(network, chip, mapping)
    return None if any([state.tick(stimulus)[1] for stimulus in stimuli]) else state


class SavingTest(unittest.TestCase):
    def assert_goes_on(self, network, chip, mapping, stimuli, at):
        """Assert that a chip saved before a tick, and those restored from it, go on like one that was not saved."""
        expected = gone_on(chip_after(network, chip, mapping, stimuli[:at]), stimuli[at:])
        state = chip_after(network, chip, mapping, stimuli[:at])
        saved = state.saved()
        before = copy.deepcopy(saved)
        one = restored(network, chip, mapping, saved)
        self.assertIs(type(one), ChipState)
        self.assertEqual(one.saved(), saved)
        self.assertEqual(one.weights(), state.weights())
        self.assertEqual(gone_on(one, stimuli[at:]), expected)
        self.assertEqual(gone_on(state, stimuli[at:]), expected)
        # It is restored once more, after the first two have gone on, for equal objects in place of the same ones.
        other = restored(copy.deepcopy(network), copy.deepcopy(chip), copy.deepcopy(mapping), saved)
        self.assertEqual(gone_on(other, stimuli[at:]), expected)
        self.assertEqual(saved, before)

    def test_what_a_saved_state_contains(self):
        network, chip = learning_ring(), Chip(Mesh(3, 1, 1), 1, 1000)
        state = ChipState(network, chip, simple_mapping(network, chip))
        for stimulus in [[0], [1], [0, 1], [], [0]] * 8:
            saved = state.saved()
            self.assertIs(type(saved), tuple)
            self.assertLessEqual(kinds_in(saved), {int, tuple, type(None)})
            state.tick(stimulus)

    def test_saving_changes_nothing(self):
        network, chip = learning_ring(), Chip(Mesh(3, 1, 1), 1, 1000)
        mapping, stimuli = simple_mapping(network, chip), [[0], [1], [0, 1], [], [0]] * 8
        state, told = ChipState(network, chip, mapping), []
        for stimulus in stimuli:
            self.assertEqual(state.saved(), state.saved())
            told.append(state.tick(stimulus)[0])
        self.assertEqual((told, state.weights()), (run_chip(network, chip, mapping, stimuli).spikes, state.weights()))
        self.assertEqual(state.weights(), run_chip(network, chip, mapping, stimuli).weights)

    def test_before_the_first_tick(self):
        network, chip = learning_ring(), Chip(Mesh(3, 1, 1), 1, 1000)
        self.assert_goes_on(network, chip, simple_mapping(network, chip), [[0], [1], [0, 1], [], [0]] * 8, 0)

    def test_within_delays(self):
        # The spike of the tick 0 arrives in the ticks 1, 8 and 15.
        synapses = [Synapse(0, 0, 3, 1), Synapse(0, 0, 4, 8), Synapse(0, 1, 9, 15), Synapse(1, 1, 9, 2)]
        network, chip = Network(1, [Neuron(7), Neuron(9)], synapses), Chip(Mesh(2, 1, 1), 1, 100)
        mapping, stimuli = simple_mapping(network, chip), [[0]] + [[]] * 16
        self.assertEqual([tick for tick, row in enumerate(run_chip(network, chip, mapping, stimuli).spikes) if row],
                         [8, 10, 15])
        for at in range(18):
            self.assert_goes_on(network, chip, mapping, stimuli, at)

    def test_within_the_window_of_the_rule(self):
        # The neuron 0 spikes in the tick 1, and the loss follows with the arrival in the tick 6. The plastic synapse
        # arrives in the tick 6, and the gain follows with the spike in the tick 9.
        synapses = [Synapse(0, 0, 5, 1), Synapse(1, 0, 1, 1, True)]
        network, chip = Network(2, [Neuron(5)], synapses, Rule(3, 2, 5, -9, 9)), Chip(Mesh(2, 1, 1), 1, 100)
        mapping, stimuli = simple_mapping(network, chip), [[0], [], [], [], [], [1], [], [], [0], [], []]
        weights = [run_chip(network, chip, mapping, stimuli[:many]).weights[0][1] for many in range(12)]
        self.assertEqual(weights, [1] * 7 + [-1] * 3 + [2] * 2)
        for at in range(12):
            self.assert_goes_on(network, chip, mapping, stimuli, at)

    def test_within_the_refractory_time(self):
        synapses = [Synapse(0, 0, 5, 1)]
        network, chip = Network(1, [Neuron(5, refractory=4, subtract=True)], synapses), Chip(Mesh(1, 1, 1), 1, 100)
        for at in range(13):
            self.assert_goes_on(network, chip, simple_mapping(network, chip), [[0]] * 12, at)

    def test_any_chip_before_any_tick(self):
        tried = 0
        for seed in range(60):
            numbers = Numbers(seed)
            network = made_network(numbers, seed % 4 > 0)
            chip = made_chip(numbers, network)
            mapping = made_mapping(numbers, network, chip)
            stimuli = made_stimuli(numbers, network.inputs, 24)
            for at in (0, 1, 3, 8, 15, 24):
                if chip_after(network, chip, mapping, stimuli[:at]):
                    self.assert_goes_on(network, chip, mapping, stimuli, at)
                    tried += 1
        self.assertGreater(tried, 250)

    def test_what_was_passed_stays(self):
        network, chip = learning_ring(), Chip(Mesh(3, 1, 1), 1, 1000)
        mapping = simple_mapping(network, chip)
        saved = chip_after(network, chip, mapping, [[0], [1], [0, 1]]).saved()
        before = copy.deepcopy([network, chip, mapping, saved])
        gone_on(restored(network, chip, mapping, saved), [[0], [0, 1]] * 10)
        self.assertEqual([network, chip, mapping, saved], before)


if __name__ == "__main__":
    unittest.main()

"""States, stimuli, watches, and which tick breaks a claim (points 06.2 to 06.5)."""

import copy
import unittest

from made_claims import advance_by_the_words, watch_by_the_words
from made_networks import Numbers, made_network, made_stimuli
from spikehold.claims import advance, initial_state, is_broken, next_watch, stimulus_of
from spikehold.networks import Network, Synapse, run
from spikehold.neurons import Neuron


def advanced(network, stimuli):
    """Return the state after the ticks of some stimuli, and the spikes of each of them."""
    state, spikes = initial_state(network), []
    for stimulus in stimuli:
        state, spiking = advance(network, state, stimulus)
        spikes.append(spiking)
    return state, spikes


def pending_with(many, sums):
    """Return 15 entries for so many neurons: zeros, but for those that are told."""
    return tuple(sums.get(k, (0,) * many) for k in range(15))


class InitialStateTest(unittest.TestCase):
    def test_all_numbers_are_0(self):
        network = Network(1, [Neuron(5), Neuron(6)], [Synapse(0, 0, 5, 3)])
        self.assertEqual(initial_state(network), ((0, 0), (0, 0), ((0, 0),) * 15))

    def test_without_neurons_there_are_15_entries(self):
        self.assertEqual(initial_state(Network(2, [], [])), ((), (), ((),) * 15))
        self.assertEqual(initial_state(Network(0, [], [])), ((), (), ((),) * 15))

    def test_without_inputs_and_synapses(self):
        self.assertEqual(initial_state(Network(0, [Neuron(5)], [])), ((0,), (0,), ((0,),) * 15))

    def test_it_is_a_tuple_of_tuples(self):
        state = initial_state(Network(1, [Neuron(5)], []))
        self.assertEqual([type(part) for part in state], [tuple, tuple, tuple])
        self.assertEqual({type(sums) for sums in state[2]}, {tuple})


class AdvanceTest(unittest.TestCase):
    def test_without_neurons(self):
        network = Network(2, [], [])
        self.assertEqual(advance(network, initial_state(network), [0, 1]), (initial_state(network), []))

    def test_a_spike_is_pending_for_as_many_ticks_as_the_delay(self):
        for delay in range(1, 16):
            network = Network(1, [Neuron(9), Neuron(9)], [Synapse(0, 1, 5, delay)])
            state = initial_state(network)
            state, spikes = advance(network, state, [0])
            for left in range(delay - 1, -1, -1):
                self.assertEqual(state, ((0, 0), (0, 0), pending_with(2, {left: (0, 5)})))
                self.assertEqual(spikes, [])
                state, spikes = advance(network, state, [])
            self.assertEqual(state, ((0, 5), (0, 0), pending_with(2, {})))

    def test_the_sums_of_several_spikes(self):
        synapses = [Synapse(0, 0, 5, 2), Synapse(0, 0, 4, 2), Synapse(1, 0, -3, 1), Synapse(1, 1, 7, 15)]
        network = Network(2, [Neuron(99), Neuron(99)], synapses)
        state, _ = advanced(network, [[0], [0, 1]])
        self.assertEqual(state[2], pending_with(2, {0: (6, 0), 1: (9, 0), 14: (0, 7)}))

    def test_the_spikes_of_neurons_are_pending_too(self):
        network = Network(1, [Neuron(5), Neuron(9)], [Synapse(0, 0, 5, 1), Synapse(1, 1, 6, 1), Synapse(1, 0, 2, 4)])
        state, spikes = advanced(network, [[0], [0]])
        self.assertEqual(spikes, [[], [0]])
        self.assertEqual(state, ((0, 0), (0, 0), pending_with(2, {0: (5, 6), 3: (2, 0)})))

    def test_the_last_tick_of_what_is_pending_takes_new_spikes(self):
        network = Network(1, [Neuron(99)], [Synapse(0, 0, 5, 15)])
        state, _ = advanced(network, [[0]] * 15)
        self.assertEqual(state[2], ((5,),) * 15)
        self.assertEqual(advance(network, state, [])[0], ((5,), (0,), ((5,),) * 14 + ((0,),)))

    def test_rests_floors_leaks_and_what_is_left_after_a_spike(self):
        neurons = [Neuron(5, refractory=3), Neuron(9, floor=-2), Neuron(9, leak=1), Neuron(4, subtract=True)]
        synapses = [Synapse(0, 0, 5, 1), Synapse(0, 1, -7, 1), Synapse(0, 2, 8, 1), Synapse(0, 3, 9, 1)]
        network = Network(1, neurons, synapses)
        state, spikes = advanced(network, [[0], []])
        self.assertEqual((state[:2], spikes), (((0, -2, 8, 5), (3, 0, 0, 0)), [[], [0, 3]]))
        state, spiking = advance(network, state, [])
        self.assertEqual((state[:2], spiking), (((0, -2, 4, 1), (2, 0, 0, 0)), [3]))

    def test_an_arrival_in_a_rest(self):
        network = Network(1, [Neuron(5, refractory=2)], [Synapse(0, 0, 6, 1)])
        state, spikes = advanced(network, [[0]] * 5)
        self.assertEqual(spikes, [[], [0], [], [], [0]])
        self.assertEqual(state[:2], ((0,), (2,)))

    def test_asking_again_with_the_same_state_gives_the_same(self):
        numbers = Numbers(5)
        network = made_network(numbers, False)
        state, _ = advanced(network, made_stimuli(numbers, network.inputs, 12))
        before = copy.deepcopy(state)
        first = advance(network, state, [0])
        other = advance(network, state, [])
        self.assertNotEqual(first, other)
        self.assertEqual(advance(network, state, [0]), first)
        self.assertEqual(state, before)

    def test_states_are_tuples_of_tuples_and_spikes_are_a_list(self):
        network = Network(1, [Neuron(5)], [Synapse(0, 0, 5, 1), Synapse(0, 0, 5, 7)])
        state = initial_state(network)
        for stimulus in ([0], [0], []):
            state, spikes = advance(network, state, stimulus)
            self.assertEqual([type(part) for part in (state,) + state], [tuple] * 4)
            self.assertEqual({type(sums) for sums in state[2]}, {tuple})
            self.assertIs(type(spikes), list)
            self.assertEqual(len(state[2]), 15)

    def test_the_spikes_are_those_of_run_and_the_states_are_as_the_words_tell(self):
        spikes_in_all = 0
        for seed in range(120):
            numbers = Numbers(seed)
            network = made_network(numbers, False)
            stimuli = made_stimuli(numbers, network.inputs, 25)
            state, expected, spikes = initial_state(network), initial_state(network), []
            for stimulus in stimuli:
                state, spiking = advance(network, state, stimulus)
                expected, _ = advance_by_the_words(network, expected, stimulus)
                self.assertEqual(state, expected)
                spikes.append(spiking)
            self.assertEqual(spikes, run(network, stimuli).spikes)
            spikes_in_all += sum(len(row) for row in spikes)
        self.assertGreater(spikes_in_all, 500)

    def test_a_delay_somewhat_beyond_the_limit(self):
        network = Network(1, [Neuron(5)], [Synapse(0, 0, 5, 17)])
        stimuli = [[0]] + [[]] * 18
        self.assertEqual(advanced(network, stimuli)[1], run(network, stimuli).spikes)
        self.assertEqual(advanced(network, stimuli)[1][17], [0])


class StimulusTest(unittest.TestCase):
    def test_0_is_no_input(self):
        self.assertEqual(stimulus_of(Network(3, [], []), 0), [])

    def test_single_bits(self):
        for i in range(16):
            self.assertEqual(stimulus_of(Network(16, [], []), 1 << i), [i])

    def test_all_bits(self):
        for inputs in (1, 2, 16):
            self.assertEqual(stimulus_of(Network(inputs, [], []), (1 << inputs) - 1), list(range(inputs)))

    def test_some_bits(self):
        self.assertEqual(stimulus_of(Network(5, [], []), 0b10110), [1, 2, 4])

    def test_without_inputs(self):
        self.assertEqual(stimulus_of(Network(0, [Neuron(5)], []), 0), [])


class WatchTest(unittest.TestCase):
    def test_never_and_apart_have_no_watch(self):
        for claim in (("never", 0), ("apart", 0, 1)):
            for stimulus in ([], [0], [0, 1]):
                for spikes in ([], [0], [0, 1]):
                    self.assertEqual(next_watch(claim, 0, stimulus, spikes), 0)

    def test_nothing_is_owed_without_the_input(self):
        claim = ("answer", 1, 0, 3)
        self.assertEqual(next_watch(claim, 0, [], []), 0)
        self.assertEqual(next_watch(claim, 0, [0, 2], [0]), 0)

    def test_the_input_begins_a_watch(self):
        for within in (1, 2, 9):
            self.assertEqual(next_watch(("answer", 1, 0, within), 0, [0, 1], []), within)
            # The spike comes in the tick of the input, and not after it.
            self.assertEqual(next_watch(("answer", 1, 0, within), 0, [1], [0]), within)

    def test_a_watch_is_reduced_while_the_neuron_is_quiet(self):
        claim = ("answer", 1, 0, 3)
        self.assertEqual([next_watch(claim, watch, [], [1, 2]) for watch in (3, 2, 1)], [2, 1, 0])

    def test_a_spike_pays(self):
        claim = ("answer", 1, 0, 3)
        self.assertEqual([next_watch(claim, watch, [0], [0, 2]) for watch in (3, 2, 1)], [0, 0, 0])

    def test_paid_and_owed_again_in_the_same_tick(self):
        claim = ("answer", 1, 0, 3)
        self.assertEqual([next_watch(claim, watch, [1], [0]) for watch in (3, 2, 1)], [3, 3, 3])

    def test_an_input_while_a_watch_goes_on(self):
        claim = ("answer", 1, 0, 3)
        self.assertEqual([next_watch(claim, watch, [1], []) for watch in (3, 2)], [2, 1])

    def test_a_watch_that_ends_unpaid_may_begin_again(self):
        claim = ("answer", 1, 0, 3)
        self.assertEqual([next_watch(claim, 1, [1], []), next_watch(claim, 1, [0], [])], [3, 0])

    def test_as_the_words_tell(self):
        for claim in (("never", 1), ("apart", 1, 0), ("answer", 0, 1, 1), ("answer", 1, 0, 4)):
            for watch in range(5 if claim[0] == "answer" else 1):
                for stimulus in ([], [0], [1], [0, 1]):
                    for spikes in ([], [0], [1], [0, 1], [2]):
                        found = next_watch(claim, watch, stimulus, spikes), is_broken(claim, watch, spikes)
                        self.assertEqual(found, watch_by_the_words(claim, watch, stimulus, spikes))


class BrokenTest(unittest.TestCase):
    def test_never(self):
        self.assertIs(is_broken(("never", 1), 0, [0, 1]), True)
        self.assertIs(is_broken(("never", 1), 0, [0, 2]), False)
        self.assertIs(is_broken(("never", 1), 0, []), False)

    def test_apart(self):
        for claim in (("apart", 1, 3), ("apart", 3, 1)):
            self.assertIs(is_broken(claim, 0, [1, 2, 3]), True)
            self.assertIs(is_broken(claim, 0, [1, 2]), False)
            self.assertIs(is_broken(claim, 0, [2, 3]), False)
            self.assertIs(is_broken(claim, 0, []), False)

    def test_answer_with_a_watch_of_1(self):
        claim = ("answer", 0, 2, 3)
        self.assertIs(is_broken(claim, 1, []), True)
        self.assertIs(is_broken(claim, 1, [0, 1]), True)
        self.assertIs(is_broken(claim, 1, [0, 2]), False)

    def test_answer_with_another_watch(self):
        for watch in (0, 2, 3):
            for spikes in ([], [2], [0]):
                self.assertIs(is_broken(("answer", 0, 2, 3), watch, spikes), False)


if __name__ == "__main__":
    unittest.main()

"""The search that decides a claim, and which answers are proper (points 06.1, 06.6 and 06.7)."""

import unittest

from made_claims import (
    claims_about, decide_by_the_words, first_break, made_claim_network, shortest_break, stimuli_of,
)
from made_networks import Numbers, made_stimuli
from spikehold.claims import advance, check_answer, decide, initial_state, is_broken, next_watch
from spikehold.networks import Network, Synapse, run
from spikehold.neurons import Neuron


def counter():
    """Return a network whose neuron spikes after three spikes of the input."""
    return Network(1, [Neuron(3, refractory=15)], [Synapse(0, 0, 1, 1)])


def relay():
    """Return a network in which the neurons 0 and 1 follow the input after one and two ticks."""
    return Network(1, [Neuron(5), Neuron(5)], [Synapse(0, 0, 5, 1), Synapse(1, 1, 5, 1)])


def either():
    """Return a network of two inputs, each of which makes its neuron spike after one tick."""
    return Network(2, [Neuron(1), Neuron(1)], [Synapse(0, 0, 1, 1), Synapse(1, 1, 1, 1)])


def with_followers(network, pairs):
    """Return the pairs and those that follow from them in any number of ticks, all with the watch 0."""
    found, taken = list(pairs), 0
    while taken < len(found):
        for [stimulus] in stimuli_of(network, 1):
            follower = (advance(network, found[taken][0], stimulus)[0], 0)
            if follower not in found:
                found.append(follower)
        taken += 1
    return found


class NeverTest(unittest.TestCase):
    def test_example_of_the_document(self):
        one = Network(1, [Neuron(2)], [Synapse(0, 0, 1, 1)])
        self.assertEqual(decide(one, ("never", 0), 100), ("breaks", [[0], [0], []]))

    def test_breaks(self):
        self.assertEqual(decide(relay(), ("never", 0), 9), ("breaks", [[0], []]))
        self.assertEqual(decide(relay(), ("never", 1), 9), ("breaks", [[0], [], []]))
        self.assertEqual(decide(counter(), ("never", 0), 99), ("breaks", [[0], [0], [0], []]))

    def test_holds(self):
        network = Network(1, [Neuron(2)], [Synapse(0, 0, -1, 1)])
        zero = ((0,), (0,), ((0,),) * 15)
        one = ((0,), (0,), ((-1,),) + ((0,),) * 14)
        self.assertEqual(decide(network, ("never", 0), 99), ("holds", [(zero, 0), (one, 0)]))

    def test_the_pairs_are_in_the_order_of_the_search(self):
        network = Network(2, [Neuron(9, floor=-1)], [Synapse(0, 0, -1, 2), Synapse(1, 0, -2, 1)])
        zeros = ((0,),) * 13

        def pair(potential, soon, later):
            return ((potential,), (0,), ((soon,), (later,)) + zeros), 0

        expected = [
            pair(0, 0, 0), pair(0, 0, -1), pair(0, -2, 0), pair(0, -2, -1),
            pair(0, -1, 0), pair(0, -1, -1), pair(0, -3, 0), pair(0, -3, -1),
            pair(-1, 0, 0), pair(-1, 0, -1), pair(-1, -2, 0), pair(-1, -2, -1),
            pair(-1, -1, 0), pair(-1, -1, -1), pair(-1, -3, 0), pair(-1, -3, -1),
        ]
        self.assertEqual(decide(network, ("never", 0), 16), ("holds", expected))

    def test_without_inputs(self):
        network = Network(0, [Neuron(1)], [Synapse(0, 0, 5, 1)])
        self.assertEqual(decide(network, ("never", 0), 1), ("holds", [(initial_state(network), 0)]))

    def test_without_synapses(self):
        network = Network(3, [Neuron(1), Neuron(1)], [])
        for claim in (("never", 1), ("apart", 0, 1)):
            self.assertEqual(decide(network, claim, 1), ("holds", [(initial_state(network), 0)]))

    def test_a_neuron_that_nothing_reaches(self):
        network = Network(1, [Neuron(5), Neuron(5)], [Synapse(0, 0, 5, 1), Synapse(2, 1, 5, 1)])
        self.assertEqual(decide(network, ("never", 1), 99)[0], "holds")
        self.assertEqual(decide(network, ("never", 0), 99)[0], "breaks")

    def test_a_search_without_an_end_is_open(self):
        # The potential falls by one with each tick of the input; the floor is far away.
        network = Network(1, [Neuron(1, floor=-1000)], [Synapse(0, 0, -1, 1)])
        for most in (1, 2, 50):
            self.assertEqual(decide(network, ("never", 0), most), ("open", most))


class ApartTest(unittest.TestCase):
    def test_breaks(self):
        for claim in (("apart", 0, 1), ("apart", 1, 0)):
            self.assertEqual(decide(either(), claim, 99), ("breaks", [[0, 1], []]))
            self.assertEqual(decide(relay(), claim, 99), ("breaks", [[0], [0], []]))

    def test_holds(self):
        # Both neurons spike, but the neuron 1 only in ticks in which the neuron 0 must rest.
        neurons = [Neuron(1, refractory=1), Neuron(1)]
        network = Network(1, neurons, [Synapse(0, 0, 1, 1), Synapse(1, 1, 1, 1)])
        for n in (0, 1):
            self.assertEqual(decide(network, ("never", n), 99)[0], "breaks")
        word, pairs = decide(network, ("apart", 0, 1), 99)
        self.assertEqual((word, pairs), decide_by_the_words(network, ("apart", 0, 1), 99))
        self.assertEqual((word, len(pairs)), ("holds", 6))

    def test_open(self):
        self.assertEqual(decide(either(), ("apart", 0, 1), 3), ("open", 3))


class AnswerTest(unittest.TestCase):
    def test_breaks(self):
        self.assertEqual(decide(relay(), ("answer", 0, 1, 1), 99), ("breaks", [[0], []]))
        self.assertEqual(decide(counter(), ("answer", 0, 0, 4), 99), ("breaks", [[0], [], [], [], []]))

    def test_holds(self):
        for claim in (("answer", 0, 0, 1), ("answer", 0, 1, 2), ("answer", 0, 1, 3)):
            word, pairs = decide(relay(), claim, 99)
            self.assertEqual(word, "holds")
            self.assertEqual(decide_by_the_words(relay(), claim, 99), (word, pairs))
            self.assertIn(claim[3], [watch for _, watch in pairs])

    def test_a_single_spike_after_the_input_is_enough(self):
        # The neuron rests when the second of two inputs in a row arrives, and spikes one tick later.
        network = Network(1, [Neuron(1, refractory=1)], [Synapse(0, 0, 1, 1)])
        self.assertEqual(decide(network, ("answer", 0, 0, 1), 99), ("breaks", [[0], [0], []]))
        self.assertEqual(decide(network, ("answer", 0, 0, 2), 99)[0], "holds")

    def test_the_input_of_the_claim_counts(self):
        self.assertEqual(decide(either(), ("answer", 1, 1, 1), 99)[0], "holds")
        self.assertEqual(decide(either(), ("answer", 0, 1, 1), 99), ("breaks", [[0], []]))
        self.assertEqual(decide(either(), ("answer", 1, 0, 2), 99), ("breaks", [[1], [], []]))

    def test_open(self):
        self.assertEqual(decide(relay(), ("answer", 0, 1, 2), 2), ("open", 2))


class BoundTest(unittest.TestCase):
    def test_a_bound_that_is_exactly_enough_and_one_less(self):
        for network, claim in (
            (relay(), ("answer", 0, 1, 2)), (relay(), ("answer", 0, 0, 1)),
            (Network(1, [Neuron(2)], [Synapse(0, 0, -1, 1)]), ("never", 0)),
        ):
            word, pairs = decide(network, claim, 1000)
            self.assertEqual(word, "holds")
            self.assertEqual(decide(network, claim, len(pairs)), ("holds", pairs))
            self.assertEqual(decide(network, claim, len(pairs) - 1), ("open", len(pairs) - 1))

    def test_a_break_is_found_before_the_bound_is_met(self):
        # The initial pair, and the one after a spike, from which the tick breaks the claim; both ticks
        # from the initial pair are tried before.
        self.assertEqual(decide(relay(), ("never", 0), 2), ("breaks", [[0], []]))
        self.assertEqual(decide(relay(), ("never", 0), 1), ("open", 1))

    def test_all_bounds_up_to_the_end(self):
        for network, claim in ((counter(), ("never", 0)), (either(), ("apart", 0, 1)), (relay(), ("apart", 0, 1))):
            found = [decide(network, claim, most) for most in range(1, 30)]
            self.assertEqual(found, [decide_by_the_words(network, claim, most) for most in range(1, 30)])
            self.assertEqual({word for word, _ in found}, {"open", "breaks"})


class ManyClaimsTest(unittest.TestCase):
    def test_the_answers_are_as_the_words_tell_and_are_proper(self):
        told = {}
        for seed in range(120):
            numbers = Numbers(seed)
            network = made_claim_network(numbers)
            for claim in claims_about(numbers, network):
                most = numbers.between(1, 150)
                answer = decide(network, claim, most)
                with self.subTest(seed=seed, claim=claim):
                    self.assertEqual(answer, decide_by_the_words(network, claim, most))
                    self.assertIs(check_answer(network, claim, answer), answer[0] != "open")
                told[claim[0], answer[0]] = told.get((claim[0], answer[0]), 0) + 1
        self.assertEqual(len(told), 9, told)
        self.assertGreater(min(told.values()), 1, told)

    def test_stimuli_that_break_a_claim_are_the_first_of_the_shortest(self):
        lengths = []
        for seed in range(60):
            numbers = Numbers(seed)
            network = made_claim_network(numbers, most_delay=2)
            for claim in claims_about(numbers, network):
                word, shown = decide(network, claim, 400)
                shortest = shortest_break(network, claim, 5 if network.inputs == 1 else 3)
                with self.subTest(seed=seed, claim=claim):
                    if shortest is not None:
                        self.assertEqual((word, shown), ("breaks", shortest))
                        lengths.append(len(shortest))
                    elif word == "breaks":
                        self.assertGreater(len(shown), 5 if network.inputs == 1 else 3)
        self.assertEqual(set(lengths), {2, 3, 4, 5})

    def test_claims_that_hold_are_broken_by_no_run(self):
        for seed in range(60):
            numbers = Numbers(seed)
            network = made_claim_network(numbers)
            for claim in claims_about(numbers, network):
                if decide(network, claim, 200)[0] == "holds":
                    for _ in range(5):
                        stimuli = made_stimuli(numbers, network.inputs, 25)
                        self.assertIsNone(first_break(claim, stimuli, run(network, stimuli).spikes))

    def test_kinds_of_values(self):
        for claim, most in ((("never", 0), 9), (("answer", 0, 0, 1), 9), (("never", 1), 1)):
            answer = decide(relay(), claim, most)
            self.assertIs(type(answer), tuple)
            if answer[0] == "breaks":
                self.assertEqual([type(part) for part in [answer[1]] + answer[1]], [list] * (len(answer[1]) + 1))
            if answer[0] == "holds":
                self.assertIs(type(answer[1]), list)
                for state, watch in answer[1]:
                    self.assertEqual((type(state), type(watch)), (tuple, int))

    def test_many_inputs(self):
        network = Network(16, [Neuron(9)], [Synapse(15, 0, 9, 1)])
        self.assertEqual(decide(network, ("never", 0), 2), ("breaks", [[15], []]))


class BreakingStimuliTest(unittest.TestCase):
    def check(self, stimuli, network=None, claim=("never", 0)):
        answer = check_answer(network or relay(), claim, ("breaks", stimuli))
        self.assertIn(answer, (True, False))
        return answer

    def test_the_last_tick_and_no_other_one_breaks_the_claim(self):
        self.assertIs(self.check([[0], []]), True)
        self.assertIs(self.check([[0], [0]]), True)

    def test_they_need_not_be_the_fewest(self):
        self.assertIs(self.check([[], [], [0], []]), True)

    def test_without_a_tick(self):
        self.assertIs(self.check([]), False)

    def test_without_a_break(self):
        self.assertIs(self.check([[0]]), False)
        self.assertIs(self.check([[], [], [0]]), False)

    def test_a_tick_behind_the_break(self):
        self.assertIs(self.check([[0], [], []]), False)

    def test_a_tick_before_the_last_one_that_breaks_the_claim(self):
        self.assertIs(self.check([[0], [0], []]), False)
        self.assertIs(self.check([[0], [], [0], []]), False)

    def test_the_watch_is_followed(self):
        claim = ("answer", 0, 0, 2)
        network = Network(2, [Neuron(1)], [Synapse(1, 0, 1, 1)])
        self.assertIs(self.check([[0], [], []], network, claim), True)
        self.assertIs(self.check([[0], [0], []], network, claim), True)
        self.assertIs(self.check([[0], [1], []], network, claim), False)
        self.assertIs(self.check([[0], [0, 1], [], [], []], network, claim), False)
        # The first input is answered in the tick 1; the second one is not.
        self.assertIs(self.check([[0, 1], [0], [], []], network, claim), True)

    def test_apart(self):
        self.assertIs(self.check([[0, 1], []], either(), ("apart", 1, 0)), True)
        self.assertIs(self.check([[0], [1], []], either(), ("apart", 1, 0)), False)

    def test_a_claim_that_holds(self):
        for stimuli in ([[0]], [[0], []], [[0], [], []], [[], [0], [0], []]):
            self.assertIs(self.check(stimuli, claim=("answer", 0, 1, 2)), False)


class HoldingPairsTest(unittest.TestCase):
    CLAIM = ("answer", 0, 1, 3)

    def check(self, pairs):
        answer = check_answer(relay(), self.CLAIM, ("holds", pairs))
        self.assertIn(answer, (True, False))
        return answer

    def setUp(self):
        self.word, self.pairs = decide(relay(), self.CLAIM, 99)
        self.assertEqual(self.word, "holds")
        self.assertGreater(len(self.pairs), 5)

    def test_what_decide_found(self):
        self.assertIs(self.check(self.pairs), True)

    def test_another_order_and_pairs_twice(self):
        self.assertIs(self.check(self.pairs[::-1]), True)
        self.assertIs(self.check(Numbers(7).shuffled(self.pairs)), True)
        self.assertIs(self.check(self.pairs + self.pairs), True)
        self.assertIs(self.check(self.pairs[2:4] + self.pairs), True)

    def test_no_pairs(self):
        self.assertIs(self.check([]), False)

    def test_each_pair_is_needed(self):
        for k in range(len(self.pairs)):
            self.assertIs(self.check(self.pairs[:k] + self.pairs[k + 1:]), False)

    def test_a_list_that_is_closed_but_lacks_the_initial_pair(self):
        # From the potential 1 of the neuron 0, every tick leads to a pair with this potential or after a spike.
        shifted = [(((1,) + state[0][1:],) + state[1:], watch) for state, watch in self.pairs]
        self.assertIs(self.check(shifted), False)
        network = Network(0, [Neuron(5)], [])
        other = (((1,), (0,), ((0,),) * 15), 0)
        self.assertIs(check_answer(network, ("never", 0), ("holds", [other])), False)
        self.assertIs(check_answer(network, ("never", 0), ("holds", [other, (initial_state(network), 0)])), True)

    def test_a_changed_pair(self):
        for k, (state, watch) in enumerate(self.pairs):
            potentials, rests, pending = state
            others = [
                (((7,) + potentials[1:], rests, pending), watch),
                ((potentials, (9,) + rests[1:], pending), watch),
                ((potentials, rests, pending[:14] + ((3, 0),)), watch),
                (state, watch + 1),
            ]
            for other in others:
                self.assertIs(self.check(self.pairs[:k] + [other] + self.pairs[k + 1:]), False)

    def test_a_pair_from_which_a_tick_breaks_the_claim(self):
        # From the watch 1 and no spike under way, the tick breaks the claim, and leads to pairs of the list.
        pair = (initial_state(relay()), 1)
        for stimulus in ([], [0]):
            after, spikes = advance(relay(), pair[0], stimulus)
            self.assertIn((after, next_watch(self.CLAIM, 1, stimulus, spikes)), self.pairs)
            self.assertTrue(is_broken(self.CLAIM, 1, spikes))
        self.assertIs(self.check(self.pairs + [pair]), False)
        self.assertIs(self.check([pair] + self.pairs), False)

    def test_needless_pairs(self):
        # A potential that no run reaches, with all that follows from it until it has leaked away.
        network = Network(1, [Neuron(50, leak=1), Neuron(5)], [Synapse(0, 0, 5, 1), Synapse(1, 1, 5, 1)])
        word, pairs = decide(network, ("never", 1), 99)
        self.assertEqual(word, "holds")
        closed = with_followers(network, pairs + [(((40, 0), (0, 0), initial_state(network)[2]), 0)])
        self.assertGreater(len(closed), len(pairs) + 1)
        self.assertIs(check_answer(network, ("never", 1), ("holds", closed)), True)
        self.assertIs(check_answer(network, ("never", 1), ("holds", closed[:-1])), False)

    def test_a_state_of_another_network(self):
        for state in (((0,), (0,), ((0,),) * 15), ((0, 0), (0, 0), ((0, 0),) * 14), ((), (), ((),) * 15)):
            self.assertIs(self.check(self.pairs + [(state, 0)]), False)

    def test_pairs_for_another_claim(self):
        self.assertIs(check_answer(relay(), ("answer", 0, 1, 2), ("holds", self.pairs)), False)
        self.assertIs(check_answer(relay(), ("never", 0), ("holds", self.pairs)), False)


class OpenTest(unittest.TestCase):
    def test_the_word_open_is_never_proper(self):
        for claim in (("never", 0), ("apart", 0, 1), ("answer", 0, 1, 3)):
            for most in (1, 2, 1000):
                self.assertIs(check_answer(relay(), claim, ("open", most)), False)
        self.assertIs(check_answer(relay(), ("never", 1), decide(relay(), ("never", 1), 1)), False)


if __name__ == "__main__":
    unittest.main()

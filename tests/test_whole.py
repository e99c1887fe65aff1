"""What the document promises over the whole program (points 00.1 to 00.3), for each function of the interface."""

import inspect
import unittest

from made_chips import learning_ring, made_chip, made_mapping
from made_claims import claims_about, made_claim_network
from made_networks import Numbers, made_network, made_stimuli
from spikehold.claims import advance, check_answer, decide, initial_state, is_broken, next_watch, stimulus_of
from spikehold.chips import ChipState, packets_of, restored, run_chip
from spikehold.errors import InvalidLine
from spikehold.improving import best_local_mapping, changes, cost, improve, mapping_of
from spikehold.influence import kept_neurons, lags, part_of
from spikehold.mapping import Chip, Mapping, enough_cycles, entry, judge, row_of, simple_mapping
from spikehold.mesh import Mesh, Traffic, deliver, distance, way
from spikehold.networks import Network, Run, depressed, potentiated, run
from spikehold.neurons import step
from spikehold.texts import format_network, parse_network, parse_number
from test_code import INTERFACE, module_of


def told(value):
    """Return a value as nested lists and words that tell all of it, with no object that is part of it."""
    if isinstance(value, (list, tuple)):
        return [type(value).__name__] + [told(item) for item in value]
    if isinstance(value, dict):
        return ["dict"] + [[told(key), told(item)] for key, item in value.items()]
    if hasattr(value, "__dict__"):
        return [type(value).__name__, told(vars(value))]
    return repr(value)


def lists_in(value, into_objects=True):
    """Return the lists in a value, itself among them."""
    found = [value] if isinstance(value, list) else []
    if isinstance(value, dict):
        value = list(value.values())
    elif into_objects and hasattr(value, "__dict__"):
        value = list(vars(value).values())
    if isinstance(value, (list, tuple)):
        for item in value:
            found += lists_in(item, into_objects)
    return found


def calls_about_networks(numbers, with_rule):
    network = learning_ring() if numbers.below(5) == 0 and with_rule else made_network(numbers, with_rule)
    stimuli = made_stimuli(numbers, network.inputs, 9)
    wanted = numbers.shuffled([n for n in range(len(network.neurons)) if numbers.below(2)])
    weights = [synapse.weight for synapse in network.synapses]
    calls = [
        (step, network.neurons[0], 5, 0, 3), (run, network, stimuli), (Run, stimuli, weights),
        (lags, network), (kept_neurons, network, wanted), (part_of, network, wanted),
        (format_network, network), (parse_network, format_network(network)), (parse_number, "-12"),
        (Network, network.inputs, network.neurons, network.synapses, network.rule),
    ]
    calls += [(row_of, synapse) for synapse in network.synapses[:1]]
    if with_rule:
        calls += [(depressed, network.rule, 3), (potentiated, network.rule, 3)]
    return calls


def calls_about_chips(numbers, with_rule):
    network = made_network(numbers, with_rule)
    chip = made_chip(numbers, network)
    mapping = made_mapping(numbers, network, chip)
    stimuli = made_stimuli(numbers, network.inputs, 9)
    state = ChipState(network, Chip(chip.mesh, chip.slots, 100000), mapping)
    for stimulus in stimuli[:5]:
        state.tick(stimulus)
    sources = [source for source in range(network.sources()) if numbers.below(2)]
    places = (network, chip, mapping.homes, mapping.gates)
    return [
        (distance, chip.mesh, 0, chip.mesh.cores() - 1), (way, chip.mesh, 0, chip.mesh.cores() - 1),
        (deliver, chip.mesh, packets_of(network, mapping, sources)), (judge, network, chip, mapping),
        (judge, network, chip, Mapping(mapping.homes, mapping.gates, mapping.routes, mapping.rows[:-1])),
        (simple_mapping, network, chip), (entry, network, mapping, 0), (enough_cycles, network, chip, mapping),
        (packets_of, network, mapping, sources), (run_chip, network, chip, mapping, stimuli),
        (restored, network, chip, mapping, state.saved()), (ChipState, network, chip, mapping),
        (Mapping, mapping.homes, mapping.gates, mapping.routes, mapping.rows),
        (mapping_of,) + places, (cost,) + places, (changes, chip, mapping.homes, mapping.gates), (improve,) + places,
        (best_local_mapping, network, chip),
    ]


def calls_about_claims(numbers, _):
    network = made_claim_network(numbers)
    state = initial_state(network)
    for stimulus in made_stimuli(numbers, network.inputs, 5):
        state, spikes = advance(network, state, stimulus)
    calls = [
        (initial_state, network), (advance, network, state, list(range(network.inputs))),
        (stimulus_of, network, (1 << network.inputs) - 1),
    ]
    for claim in claims_about(numbers, network):
        answer = decide(network, claim, 60)
        calls += [
            (next_watch, claim, 0, [0], spikes), (is_broken, claim, 0, spikes), (decide, network, claim, 60),
            (check_answer, network, claim, answer),
        ]
    return calls


def made_calls(seed):
    """Return calls of the functions, tuples that begin with the function, the same ones for the same number."""
    made = []
    for calls in (calls_about_networks, calls_about_chips, calls_about_claims):
        made += calls(Numbers(seed), seed % 2 == 0)
    return made


class ArgumentsTest(unittest.TestCase):
    def test_each_function_of_the_interface_is_called_here(self):
        called = {function for function, *_ in made_calls(0)}
        for module, names in INTERFACE.items():
            for name in names:
                if inspect.isfunction(getattr(module_of(module), name)):
                    self.assertIn(getattr(module_of(module), name), called)

    def test_no_function_changes_its_arguments(self):
        for seed in range(30):
            for function, *arguments in made_calls(seed):
                before = told(arguments)
                function(*arguments)
                with self.subTest(seed=seed, function=function.__name__):
                    self.assertEqual(told(arguments), before)

    def test_an_error_leaves_the_arguments_too(self):
        lines = ["inputs 1", "neuron 5 0 0 0 reset", "nonsense"]
        with self.assertRaises(InvalidLine):
            parse_network(lines)
        self.assertEqual(lines, ["inputs 1", "neuron 5 0 0 0 reset", "nonsense"])

    def test_only_traffic_and_chip_states_change(self):
        network = learning_ring()
        chip = made_chip(Numbers(1), network)
        network.sources()
        chip.mesh.cores()
        self.assertEqual(told(network), told(learning_ring()))
        self.assertEqual(told(chip), told(made_chip(Numbers(1), network)))
        state = ChipState(network, chip, simple_mapping(network, chip))
        before = told(state)
        state.weights()
        state.saved()
        self.assertEqual(told(state), before)
        state.tick([0])
        self.assertNotEqual(told(state), before)
        traffic = Traffic(Mesh(2, 1, 1))
        traffic.put(0, (1, 5))
        before = told(traffic)
        self.assertEqual((traffic.waiting(), told(traffic)), (1, before))
        traffic.cycle()
        self.assertNotEqual(told(traffic), before)


class ResultsTest(unittest.TestCase):
    def test_the_lists_of_a_result_are_none_of_the_arguments(self):
        many = 0
        for seed in range(30):
            for function, *arguments in made_calls(seed):
                # A chip holds the objects that it was given.
                own = lists_in(function(*arguments), function not in (restored, ChipState))
                passed = {id(one) for one in lists_in(arguments)}
                with self.subTest(seed=seed, function=function.__name__):
                    if function is not Run:
                        self.assertEqual([one for one in own if id(one) in passed], [])
                    self.assertEqual(len({id(one) for one in own}), len(own))
                many += len(own)
        self.assertGreater(many, 1000)

    def test_a_changed_result_changes_no_later_result(self):
        for seed in range(30):
            for function, *arguments in made_calls(seed):
                result = function(*arguments)
                before, passed = told(result), told(arguments)
                if function in (restored, ChipState, Run):
                    continue
                for one in lists_in(result):
                    one.append("changed")
                with self.subTest(seed=seed, function=function.__name__):
                    self.assertEqual(told(arguments), passed)
                    self.assertEqual(told(function(*arguments)), before)

    def test_all_numbers_are_integers(self):
        def assert_plain(value):
            if isinstance(value, (list, tuple)):
                for item in value:
                    assert_plain(item)
            elif hasattr(value, "__dict__"):
                for item in vars(value).values():
                    assert_plain(item)
            else:
                self.assertIn(type(value), (int, bool, str, type(None)))

        for seed in range(10):
            for function, *arguments in made_calls(seed):
                if function not in (restored, ChipState):
                    assert_plain(function(*arguments))


class WholeProgramTest(unittest.TestCase):
    def test_a_network_goes_through_the_whole_program(self):
        """The parts of the program fit together: text, part, mapping and chip tell the same spikes."""
        for seed in range(25):
            numbers = Numbers(seed)
            network = parse_network(format_network(made_network(numbers, seed % 2 == 0)))
            stimuli = made_stimuli(numbers, network.inputs, 10)
            expected = run(network, stimuli)
            wanted = [n for n in range(len(network.neurons)) if numbers.below(2)]
            kept, part = kept_neurons(network, wanted), part_of(network, wanted)
            mesh = Mesh(3, 3, 1)
            mapping = best_local_mapping(part, Chip(mesh, 1, 1))
            chip = Chip(mesh, 1, max(1, enough_cycles(part, Chip(mesh, 1, 1), mapping)))
            found = run_chip(part, chip, mapping, stimuli)
            self.assertIsNone(found.overrun)
            spikes = [[kept[n] for n in spiking] for spiking in found.spikes]
            self.assertEqual(spikes, [[n for n in spiking if n in kept] for spiking in expected.spikes])

    def test_claims_and_influence_agree(self):
        # A neuron to which no input has a lag never spikes: nothing spikes without stimuli.
        found = 0
        for seed in range(60):
            network = made_claim_network(Numbers(seed))
            for n in range(len(network.neurons)):
                if all(row[n] is None for row in lags(network)[:network.inputs]):
                    word = decide(network, ("never", n), 300)[0]
                    self.assertIn(word, ("holds", "open"))
                    found += word == "holds"
        self.assertGreater(found, 3)


if __name__ == "__main__":
    unittest.main()

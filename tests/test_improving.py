"""Placements: their mappings and costs, their changes, and how they are improved (points 07.1 to 07.4)."""

import unittest

from made_chips import chain, learning_ring, made_chip, made_mapping
from made_networks import Numbers, made_network, made_stimuli
from spikehold.chips import run_chip
from spikehold.errors import TooSmall
from spikehold.improving import best_local_mapping, changes, cost, improve, mapping_of
from spikehold.mapping import Chip, Mapping, enough_cycles, judge, simple_mapping
from spikehold.mesh import Mesh
from spikehold.networks import Network, Synapse, run
from spikehold.neurons import Neuron


def pair():
    """Return the network of the document's example."""
    return Network(1, [Neuron(5), Neuron(5)], [Synapse(0, 1, 5, 1)])


def changes_by_the_words(chip, homes, gates):
    """Return the results of all changes, by point 07.2."""
    found = []
    for n in range(len(homes)):
        for c in range(chip.mesh.width * chip.mesh.height):
            if homes[n] != c and len([home for home in homes if home == c]) < chip.slots:
                found.append((homes[:n] + [c] + homes[n + 1:], gates[:]))
    for n in range(len(homes)):
        for k in range(n + 1, len(homes)):
            if homes[n] != homes[k]:
                exchanged = homes[:]
                exchanged[n], exchanged[k] = homes[k], homes[n]
                found.append((exchanged, gates[:]))
    for i in range(len(gates)):
        for c in range(chip.mesh.width * chip.mesh.height):
            if gates[i] != c:
                found.append((homes[:], gates[:i] + [c] + gates[i + 1:]))
    return found


def cost_by_the_words(network, chip, homes, gates):
    """Return the sum of `distance + 2` from each source to each home of a target, by points 03.5 and 07.1."""
    width, total = chip.mesh.width, 0
    for source in range(network.inputs + len(network.neurons)):
        first = (gates + homes)[source]
        for core in {homes[one.target] for one in network.synapses if one.source == source}:
            total += abs(first % width - core % width) + abs(first // width - core // width) + 2
    return total


def improve_by_the_words(network, chip, homes, gates):
    """Return each placement on the way to the improved one, by point 07.3."""
    way = [(homes, gates)]
    while True:
        least = cost_by_the_words(network, chip, *way[-1])
        better = [one for one in changes_by_the_words(chip, *way[-1]) if cost_by_the_words(network, chip, *one) < least]
        if not better:
            return way
        way.append(better[0])


def made_placement(numbers, network):
    """Return a chip and a placement for a network."""
    chip = made_chip(numbers, network)
    mapping = made_mapping(numbers, network, chip)
    return chip, mapping.homes, mapping.gates


class MappingOfTest(unittest.TestCase):
    def test_the_routes_and_rows_follow_from_the_homes(self):
        chip = Chip(Mesh(3, 1, 1), 1, 10)
        rows = [[(1, 1, 3, 2, False)], [], [(0, 0, 5, 1, False)]]
        self.assertEqual(mapping_of(chain(), chip, [2, 0], [1]), Mapping([2, 0], [1], [[2], [0], []], rows))

    def test_routes_are_ascending_and_rows_in_the_order_of_the_synapses(self):
        synapses = [Synapse(0, 2, 1, 3), Synapse(0, 0, 9, 1), Synapse(0, 1, 5, 2, True), Synapse(0, 2, 1, 1)]
        network = Network(1, [Neuron(5)] * 3, synapses)
        found = mapping_of(network, Chip(Mesh(2, 1, 1), 2, 10), [1, 0, 1], [1])
        self.assertEqual(found.routes, [[0, 1], [], [], []])
        self.assertEqual(found.rows, [
            [(0, 1, 5, 2, True)], [(0, 2, 1, 3, False), (0, 0, 9, 1, False), (0, 2, 1, 1, False)],
        ])

    def test_the_simple_placement_has_the_simple_mapping(self):
        for seed in range(40):
            numbers = Numbers(seed)
            network = made_network(numbers, seed % 2 == 0)
            chip = made_chip(numbers, network)
            simple = simple_mapping(network, chip)
            self.assertEqual(mapping_of(network, chip, simple.homes, simple.gates), simple)

    def test_the_mapping_has_no_fault(self):
        for seed in range(60):
            numbers = Numbers(seed)
            network = made_network(numbers, seed % 2 == 0)
            chip, homes, gates = made_placement(numbers, network)
            found = mapping_of(network, chip, homes, gates)
            self.assertEqual((found.homes, found.gates), (homes, gates))
            self.assertIsNone(judge(network, chip, found))

    def test_its_lists_are_new(self):
        homes, gates = [1, 0], [0]
        found = mapping_of(chain(), Chip(Mesh(2, 1, 1), 1, 10), homes, gates)
        found.homes.append(7)
        found.gates.append(7)
        self.assertEqual((homes, gates), ([1, 0], [0]))


class CostTest(unittest.TestCase):
    def test_example_of_the_document(self):
        self.assertEqual(cost(pair(), Chip(Mesh(3, 1, 1), 1, 10), [0, 2], [0]), 4)

    def test_each_core_of_a_route_counts_once(self):
        network = Network(1, [Neuron(5)] * 3, [Synapse(0, n, 5, delay) for n in range(3) for delay in (1, 2)])
        chip = Chip(Mesh(3, 2, 1), 3, 10)
        self.assertEqual(cost(network, chip, [0, 0, 0], [0]), 2)
        self.assertEqual(cost(network, chip, [5, 5, 5], [0]), 5)
        self.assertEqual(cost(network, chip, [0, 5, 5], [0]), 2 + 5)
        self.assertEqual(cost(network, chip, [0, 5, 1], [4]), 4 + 3 + 3)

    def test_without_neurons_inputs_or_synapses(self):
        chip = Chip(Mesh(3, 2, 1), 3, 10)
        self.assertEqual(cost(Network(0, [], []), chip, [], []), 0)
        self.assertEqual(cost(Network(1, [Neuron(5)], []), chip, [5], [0]), 0)

    def test_it_is_enough_cycles_of_the_mapping(self):
        for seed in range(80):
            numbers = Numbers(seed)
            network = made_network(numbers, False)
            chip, homes, gates = made_placement(numbers, network)
            found = cost(network, chip, homes, gates)
            self.assertEqual(found, enough_cycles(network, chip, mapping_of(network, chip, homes, gates)))
            self.assertEqual(found, cost_by_the_words(network, chip, homes, gates))


class ChangesTest(unittest.TestCase):
    def test_the_three_kinds_in_their_order(self):
        found = changes(Chip(Mesh(3, 1, 1), 1, 10), [0, 2], [1])
        self.assertEqual(found, [
            ([1, 2], [1]), ([0, 1], [1]),
            ([2, 0], [1]),
            ([0, 2], [0]), ([0, 2], [2]),
        ])

    def test_only_to_cores_with_a_slot_left(self):
        self.assertEqual(changes(Chip(Mesh(2, 1, 1), 1, 10), [1, 0], []), [([0, 1], [])])
        self.assertEqual(changes(Chip(Mesh(2, 1, 1), 2, 10), [1, 0], []), [([0, 0], []), ([1, 1], []), ([0, 1], [])])
        self.assertEqual(changes(Chip(Mesh(2, 1, 1), 2, 10), [0, 0], []), [([1, 0], []), ([0, 1], [])])
        self.assertEqual(changes(Chip(Mesh(2, 1, 1), 2, 10), [0, 0, 1], []), [
            ([1, 0, 1], []), ([0, 1, 1], []), ([1, 0, 0], []), ([0, 1, 0], []),
        ])

    def test_only_exchanges_of_different_homes(self):
        found = changes(Chip(Mesh(2, 1, 1), 2, 10), [0, 1, 0, 1], [])
        self.assertEqual(found, [([1, 0, 0, 1], []), ([1, 1, 0, 0], []), ([0, 0, 1, 1], []), ([0, 1, 1, 0], [])])

    def test_inputs_need_no_slot(self):
        found = changes(Chip(Mesh(2, 1, 1), 1, 10), [0, 1], [0, 0])
        self.assertEqual(found, [([1, 0], [0, 0]), ([0, 1], [1, 0]), ([0, 1], [0, 1])])

    def test_none(self):
        self.assertEqual(changes(Chip(Mesh(1, 1, 1), 2, 10), [0, 0], [0]), [])
        self.assertEqual(changes(Chip(Mesh(3, 3, 1), 2, 10), [], []), [])

    def test_as_the_words_tell(self):
        for seed in range(60):
            numbers = Numbers(seed)
            chip, homes, gates = made_placement(numbers, made_network(numbers, False))
            self.assertEqual(changes(chip, homes, gates), changes_by_the_words(chip, homes, gates))

    def test_the_lists_are_new(self):
        homes, gates = [0, 2], [1]
        chip = Chip(Mesh(3, 1, 1), 1, 10)
        found = changes(chip, homes, gates)
        lists = [one for placement in found for one in placement] + [homes, gates]
        self.assertEqual(len({id(one) for one in lists}), len(lists))
        self.assertEqual({type(placement) for placement in found}, {tuple})
        self.assertEqual({type(one) for one in lists}, {list})
        for one in lists[:-2]:
            one.append(9)
        self.assertEqual((homes, gates), ([0, 2], [1]))
        self.assertEqual(changes(chip, homes, gates)[0], ([1, 2], [1]))


class ImproveTest(unittest.TestCase):
    def test_example_of_the_document(self):
        chip = Chip(Mesh(3, 1, 1), 1, 10)
        self.assertEqual(improve(pair(), chip, [0, 2], [0]), ([1, 0], [0]))

    def test_the_first_change_that_lowers_the_cost_and_not_the_best_one(self):
        # The neuron 0 could move to the core 3 at once; the core 1 comes first, and then the core 2.
        network = Network(1, [Neuron(5)], [Synapse(0, 0, 5, 1)])
        chip = Chip(Mesh(4, 1, 1), 1, 10)
        way = improve_by_the_words(network, chip, [0], [3])
        self.assertEqual(way, [([0], [3]), ([1], [3]), ([2], [3]), ([3], [3])])
        self.assertEqual(improve(network, chip, [0], [3]), ([3], [3]))

    def test_where_the_first_change_and_the_best_one_lead_to_different_ends(self):
        ends = 0
        for seed in range(120):
            numbers = Numbers(seed)
            network = made_network(numbers, False)
            chip, homes, gates = made_placement(numbers, network)
            found = improve(network, chip, homes, gates)
            self.assertEqual(found, improve_by_the_words(network, chip, homes, gates)[-1])
            greedy = (homes, gates)
            while True:
                best = min(changes(chip, *greedy), key=lambda one: cost(network, chip, *one), default=greedy)
                if cost(network, chip, *best) >= cost(network, chip, *greedy):
                    break
                greedy = best
            ends += greedy != found
        self.assertGreater(ends, 20)

    def test_a_change_that_keeps_the_cost_is_not_made(self):
        network = Network(1, [Neuron(5), Neuron(5)], [Synapse(0, 1, 5, 1)])
        chip = Chip(Mesh(3, 3, 1), 4, 10)
        self.assertEqual(improve(network, chip, [8, 4], [4]), ([8, 4], [4]))

    def test_each_kind_of_change(self):
        chip = Chip(Mesh(2, 1, 1), 1, 10)
        ring = Network(0, [Neuron(5)] * 2, [Synapse(0, 0, 5, 1), Synapse(1, 1, 5, 1)])
        self.assertEqual(improve(ring, chip, [0, 1], []), ([0, 1], []))
        # Both cores are full, so only the exchange helps.
        network = Network(2, [Neuron(5)] * 2, [Synapse(0, 1, 5, 1), Synapse(1, 0, 5, 1)])
        self.assertEqual(improve(network, chip, [0, 1], [0, 1]), ([1, 0], [0, 1]))
        # A neuron that moves is away from the other one, so only the input moves.
        single = Network(1, [Neuron(5)] * 2, [Synapse(0, 1, 5, 1), Synapse(1, 1, 5, 1), Synapse(2, 0, 5, 1)])
        self.assertEqual(improve(single, Chip(Mesh(2, 1, 1), 2, 10), [1, 1], [0]), ([1, 1], [1]))

    def test_nothing_to_improve(self):
        chip = Chip(Mesh(2, 2, 1), 1, 10)
        self.assertEqual(improve(Network(0, [], []), chip, [], []), ([], []))
        self.assertEqual(improve(Network(1, [Neuron(5)], []), chip, [3], [1]), ([3], [1]))

    def test_no_single_change_lowers_the_cost(self):
        lowered = 0
        for seed in range(80):
            numbers = Numbers(seed)
            network = made_network(numbers, seed % 2 == 0)
            chip, homes, gates = made_placement(numbers, network)
            found = improve(network, chip, homes, gates)
            least = cost(network, chip, *found)
            self.assertLessEqual(least, cost(network, chip, homes, gates))
            lowered += least < cost(network, chip, homes, gates)
            for other in changes(chip, *found):
                self.assertGreaterEqual(cost(network, chip, *other), least)
            self.assertIsNone(judge(network, chip, mapping_of(network, chip, *found)))
        self.assertGreater(lowered, 40)

    def test_what_was_passed_stays_and_the_lists_are_new(self):
        for seed in range(30):
            numbers = Numbers(seed)
            network = made_network(numbers, False)
            chip, homes, gates = made_placement(numbers, network)
            homes_before, gates_before = homes[:], gates[:]
            found = improve(network, chip, homes, gates)
            again = improve(network, chip, *found)
            self.assertEqual(again, found)
            self.assertEqual((type(found), type(found[0]), type(found[1])), (tuple, list, list))
            for one in found + again:
                one.append(9)
            self.assertEqual((homes, gates), (homes_before, gates_before))
            self.assertEqual(found, again)

    def test_the_spikes_of_the_chip_are_the_same(self):
        spikes = 0
        for seed in range(60):
            numbers = Numbers(seed)
            network = made_network(numbers, seed % 2 == 0) if seed else learning_ring()
            chip, homes, gates = made_placement(numbers, network)
            stimuli = made_stimuli(numbers, network.inputs, 12)
            first = mapping_of(network, chip, homes, gates)
            better = mapping_of(network, chip, *improve(network, chip, homes, gates))
            expected = run(network, stimuli).spikes
            for mapping in (first, better):
                enough = Chip(chip.mesh, chip.slots, max(1, enough_cycles(network, chip, mapping)))
                found = run_chip(network, enough, mapping, stimuli)
                self.assertEqual((found.spikes, found.overrun), (expected, None))
            spikes += sum(len(row) for row in expected)
        self.assertGreater(spikes, 100)


class BestLocalMappingTest(unittest.TestCase):
    def test_it_is_the_improved_simple_mapping(self):
        better = 0
        for seed in range(60):
            numbers = Numbers(seed)
            network = made_network(numbers, seed % 2 == 0)
            chip = made_chip(numbers, network)
            simple = simple_mapping(network, chip)
            found = best_local_mapping(network, chip)
            placement = improve_by_the_words(network, chip, simple.homes, simple.gates)[-1]
            self.assertEqual(found, mapping_of(network, chip, *placement))
            self.assertIsNone(judge(network, chip, found))
            better += enough_cycles(network, chip, found) < enough_cycles(network, chip, simple)
        self.assertGreater(better, 20)

    def test_an_example(self):
        found = best_local_mapping(chain(), Chip(Mesh(2, 1, 1), 2, 10))
        rows = [[(0, 0, 5, 1, False), (1, 1, 3, 2, False)], []]
        self.assertEqual(found, Mapping([0, 0], [0], [[0], [0], []], rows))

    def test_too_small(self):
        for many, mesh, slots, places in ((3, Mesh(2, 1, 1), 1, 2), (5, Mesh(1, 1, 1), 4, 4), (13, Mesh(2, 3, 1), 2, 12)):
            with self.assertRaises(TooSmall) as caught:
                best_local_mapping(Network(1, [Neuron(5)] * many, []), Chip(mesh, slots, 10))
            self.assertEqual(caught.exception.place, places)

    def test_just_large_enough(self):
        found = best_local_mapping(Network(0, [Neuron(5)] * 12, []), Chip(Mesh(2, 3, 1), 2, 10))
        self.assertEqual(found.homes, [n // 2 for n in range(12)])


if __name__ == "__main__":
    unittest.main()

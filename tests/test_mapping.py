"""Chips, mappings, the simple mapping and the cycles that are enough (points 04.1, 04.2 and 04.4)."""

import copy
import unittest

from made_chips import chain, made_chip, made_mapping
from made_networks import Numbers, made_network
from spikehold.errors import SpikeholdError, TooSmall
from spikehold.mapping import Chip, Mapping, enough_cycles, entry, judge, row_of, simple_mapping
from spikehold.mesh import Mesh
from spikehold.networks import Network, Synapse
from spikehold.neurons import Neuron


def network_with(inputs, neurons, synapses):
    return Network(inputs, [Neuron(5)] * neurons, [Synapse(source, target, 1, 1) for source, target in synapses])


class ChipTest(unittest.TestCase):
    def test_attributes(self):
        chip = Chip(Mesh(2, 1, 1), 3, 10)
        self.assertEqual((chip.mesh, chip.slots, chip.cycles), (Mesh(2, 1, 1), 3, 10))

    def test_names_of_the_arguments(self):
        self.assertEqual(Chip(mesh=Mesh(2, 1, 1), slots=3, cycles=10), Chip(Mesh(2, 1, 1), 3, 10))


class MappingTest(unittest.TestCase):
    def test_attributes(self):
        mapping = Mapping([0, 1], [2], [[0], [], [1]], [[(0, 0, 5, 1, False)], []])
        self.assertEqual(mapping.homes, [0, 1])
        self.assertEqual(mapping.gates, [2])
        self.assertEqual(mapping.routes, [[0], [], [1]])
        self.assertEqual(mapping.rows, [[(0, 0, 5, 1, False)], []])

    def test_names_of_the_arguments(self):
        self.assertEqual(Mapping(homes=[0], gates=[1], routes=[[2]], rows=[[]]), Mapping([0], [1], [[2]], [[]]))

    def test_the_lists_and_the_lists_in_them_are_copied(self):
        lists = [[0, 1], [2], [[0], [], [1]], [[(0, 0, 5, 1, False)], []]]
        mapping = Mapping(*lists)
        before = copy.deepcopy(mapping)
        lists[0].append(3)
        lists[1].clear()
        lists[2][0].append(1)
        lists[2].append([2])
        lists[3][0].clear()
        lists[3].pop()
        self.assertEqual(mapping, before)

    def test_the_mapping_does_not_change_what_was_passed(self):
        lists = [[0, 1], [2], [[0], [], [1]], [[(0, 0, 5, 1, False)], []]]
        before = copy.deepcopy(lists)
        mapping = Mapping(*lists)
        for one in (mapping.homes, mapping.gates, mapping.routes[0], mapping.routes, mapping.rows[0], mapping.rows):
            one.clear()
        self.assertEqual(lists, before)


class RowTest(unittest.TestCase):
    def test_row_of(self):
        self.assertEqual(row_of(Synapse(1, 2, -3, 4, True)), (1, 2, -3, 4, True))
        self.assertEqual(row_of(Synapse(0, 0, 5, 1)), (0, 0, 5, 1, False))
        self.assertEqual([type(value) for value in row_of(Synapse(1, 2, -3, 4, True))], [int] * 4 + [bool])
        self.assertIs(type(row_of(Synapse(1, 2, -3, 4, True))), tuple)


class SimpleMappingTest(unittest.TestCase):
    def test_the_example(self):
        mapping = simple_mapping(chain(), Chip(Mesh(2, 1, 1), 1, 10))
        self.assertEqual([mapping.homes, mapping.gates, mapping.routes, mapping.rows],
                         [[0, 1], [0], [[0], [1], []], [[(0, 0, 5, 1, False)], [(1, 1, 3, 2, False)]]])
        self.assertIs(type(mapping), Mapping)

    def test_one_core_is_filled_after_the_other(self):
        for many, slots, expected in (
            (7, 3, [0, 0, 0, 1, 1, 1, 2]), (3, 64, [0, 0, 0]), (4, 1, [0, 1, 2, 3]), (8, 2, [0, 0, 1, 1, 2, 2, 3, 3]),
        ):
            mapping = simple_mapping(network_with(0, many, []), Chip(Mesh(2, 2, 1), slots, 10))
            self.assertEqual(mapping.homes, expected)
            self.assertEqual(mapping.rows, [[], [], [], []])

    def test_more_inputs_than_cores(self):
        mapping = simple_mapping(network_with(8, 1, []), Chip(Mesh(3, 1, 1), 1, 10))
        self.assertEqual(mapping.gates, [0, 1, 2, 0, 1, 2, 0, 1])
        self.assertEqual(simple_mapping(network_with(3, 1, []), Chip(Mesh(1, 1, 1), 1, 10)).gates, [0, 0, 0])
        self.assertEqual(simple_mapping(network_with(3, 1, []), Chip(Mesh(2, 2, 1), 1, 10)).gates, [0, 1, 2])

    def test_routes_are_ascending_without_duplicates(self):
        synapses = [(0, 3), (0, 0), (0, 2), (0, 1), (0, 3), (2, 2), (2, 0)]
        mapping = simple_mapping(network_with(1, 4, synapses), Chip(Mesh(2, 2, 1), 1, 10))
        self.assertEqual(mapping.routes, [[0, 1, 2, 3], [], [0, 2], [], []])
        mapping = simple_mapping(network_with(1, 4, synapses), Chip(Mesh(2, 2, 1), 2, 10))
        self.assertEqual(mapping.routes, [[0, 1], [], [0, 1], [], []])

    def test_rows_are_in_the_order_of_the_synapses(self):
        synapses = [Synapse(1, 1, 5, 2), Synapse(0, 0, 9, 1, True), Synapse(0, 2, 3, 4), Synapse(0, 0, -9, 1),
                    Synapse(1, 1, 5, 2)]
        mapping = simple_mapping(Network(1, [Neuron(5)] * 3, synapses), Chip(Mesh(2, 1, 1), 2, 10))
        self.assertEqual(mapping.rows, [
            [(1, 1, 5, 2, False), (0, 0, 9, 1, True), (0, 0, -9, 1, False), (1, 1, 5, 2, False)],
            [(0, 2, 3, 4, False)],
        ])

    def test_without_neurons_and_without_inputs(self):
        chip = Chip(Mesh(2, 1, 1), 1, 10)
        self.assertEqual(simple_mapping(network_with(0, 0, []), chip), Mapping([], [], [], [[], []]))
        self.assertEqual(simple_mapping(network_with(3, 0, []), chip),
                         Mapping([], [0, 1, 0], [[], [], []], [[], []]))
        self.assertEqual(simple_mapping(network_with(0, 2, []), chip), Mapping([0, 1], [], [[], []], [[], []]))

    def test_too_small(self):
        for mesh, slots, places in ((Mesh(2, 1, 1), 1, 2), (Mesh(1, 1, 8), 64, 64), (Mesh(3, 2, 1), 4, 24)):
            chip = Chip(mesh, slots, 10)
            self.assertEqual(len(simple_mapping(network_with(1, places, []), chip).homes), places)
            for many in (places + 1, places + 50):
                with self.assertRaises(TooSmall) as caught:
                    simple_mapping(network_with(1, many, []), chip)
                self.assertEqual(caught.exception.place, places)
                self.assertIsInstance(caught.exception, SpikeholdError)

    def test_it_has_no_fault(self):
        for seed in range(200):
            numbers = Numbers(seed)
            network = made_network(numbers, seed % 2 == 0)
            chip = made_chip(numbers, network)
            before = copy.deepcopy([network, chip])
            mapping = simple_mapping(network, chip)
            self.assertIsNone(judge(network, chip, mapping))
            self.assertEqual([network, chip], before)

    def test_the_largest_network_and_chip(self):
        network = network_with(16, 500, [(source, source % 500) for source in range(516)])
        chip = Chip(Mesh(8, 8, 8), 8, 100000)
        mapping = simple_mapping(network, chip)
        self.assertEqual(mapping.homes, [n // 8 for n in range(500)])
        self.assertIsNone(judge(network, chip, mapping))


class EntryTest(unittest.TestCase):
    def test_gates_and_homes(self):
        mapping = Mapping([3, 1, 3], [2, 0], [[]] * 5, [[]] * 4)
        network = network_with(2, 3, [])
        self.assertEqual([entry(network, mapping, source) for source in range(5)], [2, 0, 3, 1, 3])

    def test_without_inputs(self):
        self.assertEqual(entry(network_with(0, 1, []), Mapping([1], [], [[]], [[], []]), 0), 1)


class EnoughCyclesTest(unittest.TestCase):
    def test_the_example(self):
        chip = Chip(Mesh(2, 1, 1), 1, 10)
        self.assertEqual(enough_cycles(chain(), chip, simple_mapping(chain(), chip)), 5)

    def test_by_hand(self):
        # From the gate 5: to 0 (3 + 2), to 5 (0 + 2). From the home 1: to 0 (1 + 2), to 3 (2 + 2).
        mapping = Mapping([1], [5], [[5, 0], [0, 3]], [[]] * 6)
        self.assertEqual(enough_cycles(network_with(1, 1, []), Chip(Mesh(3, 2, 1), 1, 10), mapping), 5 + 2 + 3 + 4)

    def test_without_routes(self):
        chip = Chip(Mesh(3, 2, 1), 1, 10)
        for network in (network_with(0, 0, []), network_with(3, 2, [])):
            self.assertEqual(enough_cycles(network, chip, simple_mapping(network, chip)), 0)

    def test_needless_cores_count(self):
        network, chip = network_with(1, 1, [(0, 0)]), Chip(Mesh(3, 1, 1), 1, 10)
        self.assertEqual(enough_cycles(network, chip, Mapping([0], [0], [[0], []], [[], [], []])), 2)
        self.assertEqual(enough_cycles(network, chip, Mapping([0], [0], [[0, 2], [1]], [[], [], []])), 2 + 4 + 3)

    def test_room_slots_and_cycles_have_no_part_in_it(self):
        mapping = simple_mapping(chain(), Chip(Mesh(2, 1, 1), 1, 10))
        for chip in (Chip(Mesh(2, 1, 8), 1, 10), Chip(Mesh(2, 1, 1), 64, 10), Chip(Mesh(2, 1, 1), 1, 1)):
            self.assertEqual(enough_cycles(chain(), chip, mapping), 5)

    def test_nothing_that_was_passed_changes(self):
        for seed in range(50):
            numbers = Numbers(seed)
            network = made_network(numbers, False)
            chip = made_chip(numbers, network)
            mapping = made_mapping(numbers, network, chip)
            before = copy.deepcopy([network, chip, mapping])
            enough_cycles(network, chip, mapping)
            for source in range(network.sources()):
                entry(network, mapping, source)
            self.assertEqual([network, chip, mapping], before)


if __name__ == "__main__":
    unittest.main()

"""Objects are equal if all their attributes are, and unequal to values of other classes (point 00.3)."""

import copy
import unittest

from spikehold.chips import ChipRun
from spikehold.mapping import Chip, Mapping
from spikehold.mesh import Mesh
from spikehold.networks import Network, Rule, Run, Synapse
from spikehold.neurons import Neuron


class EqualToAll:
    def __eq__(self, other):
        return True


def one_of_each():
    return [
        Neuron(1), Synapse(1, 2, 3, 4), Rule(1, 2, 3, 4, 5), Network(0, [], []), Run([], []),
        Mesh(1, 2, 3), Chip(Mesh(1, 2, 3), 4, 5), Mapping([], [], [], []), ChipRun([], [], None),
    ]


def values_of_other_kinds():
    return [
        None, 0, 1, "", (), [], {}, (1, 2, 3, 4, False), (1, 2, 3, 4, 5), (0, [], [], None), ([], []),
        (1, 2, 3), [1, 2, 3], (Mesh(1, 2, 3), 4, 5), ([], [], [], []), [[], [], [], []], ([], [], None),
    ]


class EqualityTest(unittest.TestCase):
    def assert_compares_all(self, build, values, others):
        """Assert that two objects are equal if and only if no value differs."""
        self.assertIs(build(*values) == build(*copy.deepcopy(values)), True)
        self.assertIs(build(*values) != build(*copy.deepcopy(values)), False)
        self.assertEqual(len(values), len(others))
        for k, other in enumerate(others):
            changed = list(values)
            changed[k] = other
            with self.subTest(attribute=k):
                self.assertIs(build(*values) == build(*changed), False)
                self.assertIs(build(*changed) == build(*values), False)
                self.assertIs(build(*values) != build(*changed), True)

    def test_synapses(self):
        self.assert_compares_all(Synapse, [1, 2, 3, 4, False], [2, 3, 4, 5, True])

    def test_rules(self):
        self.assert_compares_all(Rule, [1, 2, 3, 4, 5], [2, 3, 4, 5, 6])

    def test_networks(self):
        rule = Rule(1, 2, 3, 4, 5)
        values = [1, [Neuron(5)], [Synapse(0, 0, 5, 1)], rule]
        self.assert_compares_all(Network, values, [2, [Neuron(6)], [Synapse(0, 0, 5, 2)], None])
        self.assert_compares_all(Network, values, [2, [Neuron(5), Neuron(5)], [], Rule(1, 2, 3, 4, 6)])

    def test_networks_without_a_rule(self):
        values = [1, [Neuron(5)], [Synapse(0, 0, 5, 1)], None]
        self.assert_compares_all(Network, values, [0, [], [], Rule(1, 2, 3, 4, 5)])

    def test_the_order_of_the_lists_of_a_network_counts(self):
        one, other = Neuron(5), Neuron(6)
        self.assertFalse(Network(0, [one, other], []) == Network(0, [other, one], []))
        first, second = Synapse(0, 0, 5, 1), Synapse(0, 0, 6, 1)
        self.assertFalse(Network(1, [one], [first, second]) == Network(1, [one], [second, first]))

    def test_runs(self):
        self.assert_compares_all(Run, [[[], [0]], [5]], [[[], []], [6]])

    def test_meshes(self):
        self.assert_compares_all(Mesh, [1, 2, 3], [2, 3, 4])
        # The number of cores is the same.
        self.assertFalse(Mesh(2, 3, 1) == Mesh(3, 2, 1))

    def test_chips(self):
        self.assert_compares_all(Chip, [Mesh(1, 2, 3), 4, 5], [Mesh(1, 2, 4), 5, 6])

    def test_mappings(self):
        values = [[0, 1], [0], [[0], [1], []], [[(0, 0, 5, 1, False)], [(1, 1, 3, 2, False)]]]
        others = [[1, 0], [1], [[0], [1], [0]], [[(0, 0, 5, 1, False)], []]]
        self.assert_compares_all(Mapping, values, others)

    def test_the_order_of_routes_and_rows_counts(self):
        rows = [(0, 0, 5, 1, False), (0, 0, 6, 1, False)]
        self.assertFalse(Mapping([0], [0], [[0, 1], []], [[]]) == Mapping([0], [0], [[1, 0], []], [[]]))
        self.assertFalse(Mapping([0], [0], [[0], []], [rows]) == Mapping([0], [0], [[0], []], [rows[::-1]]))

    def test_chip_runs(self):
        self.assert_compares_all(ChipRun, [[[], [0]], [[5], []], None], [[[], []], [[5], [5]], 1])
        self.assert_compares_all(ChipRun, [[[], [0]], None, 1], [[[0], [0]], [], 0])

    def test_unequal_to_values_of_other_classes(self):
        objects = one_of_each()
        for k, one in enumerate(objects):
            for other in objects[:k] + objects[k + 1:] + values_of_other_kinds():
                self.assertIs(one == other, False)
                self.assertIs(other == one, False)
                self.assertIs(one != other, True)

    def test_the_other_class_does_not_decide(self):
        for one in one_of_each():
            self.assertIs(one == EqualToAll(), False)


if __name__ == "__main__":
    unittest.main()

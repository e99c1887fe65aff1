"""How a mapping is judged: the first fault in the order of point 04.3."""

import copy
import unittest

from made_chips import made_chip, made_mapping
from made_networks import Numbers, made_network
from spikehold.mapping import Chip, Mapping, judge, simple_mapping
from spikehold.mesh import Mesh
from spikehold.networks import Network, Synapse
from spikehold.neurons import Neuron

CHIP = Chip(Mesh(2, 2, 1), 2, 10)
TWICE = (0, 2, 7, 3, False)


def network():
    """Return two inputs and four neurons; the input 0 leads to the neuron 2 twice by equal synapses."""
    synapses = [
        Synapse(0, 0, 5, 1), Synapse(0, 2, 7, 3), Synapse(0, 2, 7, 3), Synapse(3, 1, 4, 2, True), Synapse(5, 3, 1, 1),
    ]
    return Network(2, [Neuron(5)] * 4, synapses)


def lists():
    """Return the lists of a mapping of the network without a fault."""
    return {
        "homes": [0, 1, 1, 3],
        "gates": [0, 2],
        "routes": [[0, 1], [], [], [1], [], [3]],
        "rows": [[(0, 0, 5, 1, False)], [TWICE, (3, 1, 4, 2, True), TWICE], [], [(5, 3, 1, 1, False)]],
    }


def judged(**changed):
    return judge(network(), CHIP, Mapping(**{**lists(), **changed}))


def with_item(name, k, value):
    listed = lists()[name]
    listed[k] = value
    return listed


def fault_by_the_words(network, chip, mapping):
    """Return the first fault by counting, synapse by synapse and core by core."""
    cores = range(chip.mesh.width * chip.mesh.height)
    faults = [("homes", len(network.neurons))] if len(mapping.homes) != len(network.neurons) else []
    faults += [("homes", n) for n, home in enumerate(mapping.homes) if home not in cores]
    faults += [("slots", c) for c in cores if sum(home == c for home in mapping.homes) > chip.slots]
    faults += [("gates", network.inputs)] if len(mapping.gates) != network.inputs else []
    faults += [("gates", i) for i, gate in enumerate(mapping.gates) if gate not in cores]
    if faults:
        return faults[0]
    if len(mapping.routes) != network.inputs + len(network.neurons):
        return "routes", network.inputs + len(network.neurons)
    for s, route in enumerate(mapping.routes):
        wanted = [mapping.homes[synapse.target] for synapse in network.synapses if synapse.source == s]
        if any(c not in cores or route.count(c) > 1 for c in route) or any(c not in route for c in wanted):
            return "routes", s
    if len(mapping.rows) != len(cores):
        return "rows", len(cores)
    for c, rows in enumerate(mapping.rows):
        told = [synapse for synapse in network.synapses if mapping.homes[synapse.target] == c]
        wanted = [(one.source, one.target, one.weight, one.delay, one.plastic) for one in told]
        if len(rows) != len(wanted) or any(rows.count(row) != wanted.count(row) for row in rows + wanted):
            return "rows", c
    return None


class NoFaultTest(unittest.TestCase):
    def test_a_mapping_without_a_fault(self):
        self.assertIsNone(judged())

    def test_routes_in_another_order_and_with_needless_cores(self):
        self.assertIsNone(judged(routes=with_item("routes", 0, [1, 0])))
        self.assertIsNone(judged(routes=with_item("routes", 0, [3, 1, 2, 0])))
        self.assertIsNone(judged(routes=[[3, 2, 1, 0]] * 6))

    def test_rows_in_another_order(self):
        for rows in ([TWICE, TWICE, (3, 1, 4, 2, True)], [(3, 1, 4, 2, True), TWICE, TWICE]):
            self.assertIsNone(judged(rows=with_item("rows", 1, rows)))

    def test_networks_without_neurons_and_without_inputs(self):
        self.assertIsNone(judge(Network(0, [], []), CHIP, Mapping([], [], [], [[], [], [], []])))
        self.assertIsNone(judge(Network(1, [], []), CHIP, Mapping([], [3], [[]], [[], [], [], []])))
        self.assertIsNone(judge(Network(0, [Neuron(5)], []), CHIP, Mapping([3], [], [[1]], [[], [], [], []])))

    def test_simple_mappings_and_any_others(self):
        for seed in range(200):
            numbers = Numbers(seed)
            one = made_network(numbers, seed % 2 == 0)
            chip = made_chip(numbers, one)
            self.assertIsNone(judge(one, chip, simple_mapping(one, chip)))
            self.assertIsNone(judge(one, chip, made_mapping(numbers, one, chip)))


class HomesTest(unittest.TestCase):
    def test_the_number_of_entries(self):
        for homes in ([], [0, 1, 1], [0, 1, 1, 3, 3]):
            self.assertEqual(judged(homes=homes), ("homes", 4))

    def test_the_number_of_entries_is_looked_at_first(self):
        self.assertEqual(judged(homes=[9, 1, 1]), ("homes", 4))
        self.assertEqual(judged(homes=[-1, 1, 1, 3, 3]), ("homes", 4))

    def test_a_home_that_is_no_core(self):
        for n in range(4):
            for home in (-1, 4, 5, -4):
                self.assertEqual(judged(homes=with_item("homes", n, home)), ("homes", n))

    def test_the_first_one_is_told(self):
        self.assertEqual(judged(homes=[0, 4, 1, -1]), ("homes", 1))


class SlotsTest(unittest.TestCase):
    def test_a_core_with_too_many_neurons(self):
        for core in range(4):
            for many in (3, 4):
                homes = [core] * many + [(core + 1) % 4] * (4 - many)
                self.assertEqual(judged(homes=homes), ("slots", core))

    def test_the_first_core_is_told(self):
        homes = [3, 3, 3, 1, 1, 1]
        mapping = Mapping(homes, [], [[]] * 6, [[]] * 4)
        self.assertEqual(judge(Network(0, [Neuron(5)] * 6, []), CHIP, mapping), ("slots", 1))

    def test_as_many_neurons_as_slots(self):
        one = Network(0, [Neuron(5)] * 8, [])
        self.assertIsNone(judge(one, CHIP, Mapping([0, 1, 2, 3] * 2, [], [[]] * 8, [[]] * 4)))


class GatesTest(unittest.TestCase):
    def test_the_number_of_entries(self):
        for gates in ([], [0], [0, 2, 2], [9], [9, 9, 9]):
            self.assertEqual(judged(gates=gates), ("gates", 2))

    def test_a_gate_that_is_no_core(self):
        for i in range(2):
            for gate in (-1, 4, 99):
                self.assertEqual(judged(gates=with_item("gates", i, gate)), ("gates", i))
        self.assertEqual(judged(gates=[4, 4]), ("gates", 0))


class RoutesTest(unittest.TestCase):
    def test_the_number_of_entries(self):
        routes = lists()["routes"]
        for changed in ([], routes[:-1], routes + [[]], [[9]], [[9]] + routes):
            self.assertEqual(judged(routes=changed), ("routes", 6))

    def test_an_entry_that_is_no_core(self):
        for source, route in enumerate(lists()["routes"]):
            for wrong in (-1, 4, -4):
                self.assertEqual(judged(routes=with_item("routes", source, route + [wrong])), ("routes", source))
                self.assertEqual(judged(routes=with_item("routes", source, [wrong] + route)), ("routes", source))

    def test_a_core_twice(self):
        for source, route in ((0, [0, 1, 0]), (0, [1, 0, 1]), (1, [2, 2]), (3, [1, 1]), (5, [3, 2, 2])):
            self.assertEqual(judged(routes=with_item("routes", source, route)), ("routes", source))

    def test_a_needed_core_is_missing(self):
        for source, route in ((0, []), (0, [0]), (0, [1]), (0, [1, 2, 3]), (3, []), (3, [0, 2, 3]), (5, [1])):
            self.assertEqual(judged(routes=with_item("routes", source, route)), ("routes", source))

    def test_the_first_one_is_told(self):
        self.assertEqual(judged(routes=[[0, 1], [], [2, 2], [], [], []]), ("routes", 2))


class RowsTest(unittest.TestCase):
    def test_the_number_of_entries(self):
        rows = lists()["rows"]
        for changed in ([], rows[:-1], rows + [[]], [[TWICE]]):
            self.assertEqual(judged(rows=changed), ("rows", 4))

    def test_a_row_too_many(self):
        for core, rows in enumerate(lists()["rows"]):
            self.assertEqual(judged(rows=with_item("rows", core, rows + [(1, 0, 5, 1, False)])), ("rows", core))

    def test_a_row_too_few(self):
        for core, rows in ((0, []), (1, [TWICE, TWICE]), (1, [TWICE, (3, 1, 4, 2, True)]), (3, [])):
            self.assertEqual(judged(rows=with_item("rows", core, rows)), ("rows", core))

    def test_a_row_twice_or_once_in_place_of_another(self):
        other = (3, 1, 4, 2, True)
        for rows in ([TWICE, TWICE, TWICE, other], [TWICE, other, other], [TWICE, TWICE, other, other], [TWICE] * 3):
            self.assertEqual(judged(rows=with_item("rows", 1, rows)), ("rows", 1))

    def test_a_changed_row(self):
        for k, value in enumerate((4, 2, 8, 2, True)):
            row = list(lists()["rows"][3][0])
            row[k] = value
            self.assertEqual(judged(rows=with_item("rows", 3, [tuple(row)])), ("rows", 3))

    def test_a_row_at_another_core(self):
        rows = lists()["rows"]
        rows[2], rows[3] = rows[3], rows[2]
        self.assertEqual(judged(rows=rows), ("rows", 2))
        rows = lists()["rows"]
        rows[2].append(rows[1].pop(0))
        self.assertEqual(judged(rows=rows), ("rows", 1))


class OrderOfFaultsTest(unittest.TestCase):
    def test_the_first_of_two_faults(self):
        # Each is the last one that is found; with all after it, it is still the one that is told.
        faults = [
            ({"homes": [0, 9, 1, 3]}, ("homes", 1)),
            ({"homes": [1, 1, 1, 3]}, ("slots", 1)),
            ({"gates": [0, 9]}, ("gates", 1)),
            ({"routes": with_item("routes", 4, [9])}, ("routes", 4)),
            ({"rows": with_item("rows", 3, [])}, ("rows", 3)),
        ]
        for k, (first, told) in enumerate(faults):
            self.assertEqual(judged(**first), told)
            for later, _ in faults[k + 1:]:
                self.assertEqual(judged(**{**later, **first}), told)
            if k > 0:
                self.assertEqual(judged(**{name: [] for name in list(lists())[k:]}, **first), told)

    def test_kinds_of_values(self):
        found = judged(gates=[0, 9])
        self.assertIs(type(found), tuple)
        self.assertEqual([type(value) for value in found], [str, int])

    def test_nothing_that_was_passed_changes(self):
        one, mapping = network(), Mapping(**lists())
        for changed in (mapping, Mapping(**{**lists(), "rows": with_item("rows", 1, [TWICE])})):
            before = copy.deepcopy([one, CHIP, changed])
            judge(one, CHIP, changed)
            self.assertEqual([one, CHIP, changed], before)


def spoiled(numbers, mapping, cores):
    """Return the mapping with one or two of its lists changed at one place."""
    changed = copy.deepcopy(mapping)
    for _ in range(numbers.between(1, 2)):
        top = [changed.homes] * 5 + [changed.gates] * 2 + [changed.routes]
        places = [one for one in top + changed.routes + changed.rows if one]
        listed = places[numbers.below(len(places))]
        k = numbers.below(len(listed))
        kind = numbers.below(4)
        if kind == 0:
            listed.pop(k)
        elif kind == 1:
            listed.append(copy.deepcopy(listed[k]))
        elif isinstance(listed[k], int):
            listed[k] = numbers.between(-1, cores)
        else:
            other = numbers.below(len(listed))
            listed[k], listed[other] = listed[other], listed[k]
    return changed


class ManyMappingsTest(unittest.TestCase):
    def test_faults_are_as_the_words_tell(self):
        words = {}
        for seed in range(1500):
            numbers = Numbers(seed)
            one = made_network(numbers, seed % 2 == 0)
            chip = made_chip(numbers, one)
            mapping = spoiled(numbers, made_mapping(numbers, one, chip), chip.mesh.cores())
            found = judge(one, chip, mapping)
            self.assertEqual(found, fault_by_the_words(one, chip, mapping))
            word = "none" if found is None else found[0]
            words[word] = words.get(word, 0) + 1
        # Each kind of fault occurs often enough to be tested.
        self.assertGreater(min(words.get(word, 0) for word in ("none", "homes", "slots", "gates", "routes", "rows")), 20)


if __name__ == "__main__":
    unittest.main()

"""The interface stands where the document lists it, and the code keeps the plain rules of its language."""

import ast
import importlib
import inspect
import os
import unittest

ROOT = os.path.dirname(os.path.dirname(os.path.abspath(__file__)))
PACKAGE = os.path.join(ROOT, "spikehold")

INTERFACE = {
    "errors": {"SpikeholdError": "(place)", "TooSmall": "(place)", "InvalidLine": "(place)"},
    "neurons": {
        "Neuron": "(threshold, *, leak=0, refractory=0, floor=0, subtract=False)",
        "step": "(neuron, potential, rest, incoming)",
    },
    "networks": {
        "Synapse": "(source, target, weight, delay, plastic=False)",
        "Rule": "(gain, loss, window, least, most)",
        "Network": "(inputs, neurons, synapses, rule=None)",
        "depressed": "(rule, weight)",
        "potentiated": "(rule, weight)",
        "Run": "(spikes, weights)",
        "run": "(network, stimuli)",
    },
    "mesh": {
        "Mesh": "(width, height, room)",
        "distance": "(mesh, first, second)",
        "way": "(mesh, core, destination)",
        "Traffic": "(mesh)",
        "deliver": "(mesh, packets)",
    },
    "mapping": {
        "Chip": "(mesh, slots, cycles)",
        "Mapping": "(homes, gates, routes, rows)",
        "row_of": "(synapse)",
        "judge": "(network, chip, mapping)",
        "simple_mapping": "(network, chip)",
        "entry": "(network, mapping, source)",
        "enough_cycles": "(network, chip, mapping)",
    },
    "chips": {
        "ChipRun": "(spikes, weights, overrun)",
        "packets_of": "(network, mapping, sources)",
        "ChipState": "(network, chip, mapping)",
        "restored": "(network, chip, mapping, saved)",
        "run_chip": "(network, chip, mapping, stimuli)",
    },
    "claims": {
        "initial_state": "(network)",
        "advance": "(network, state, stimulus)",
        "stimulus_of": "(network, number)",
        "next_watch": "(claim, watch, stimulus, spikes)",
        "is_broken": "(claim, watch, spikes)",
        "decide": "(network, claim, most)",
        "check_answer": "(network, claim, answer)",
    },
    "improving": {
        "mapping_of": "(network, chip, homes, gates)",
        "cost": "(network, chip, homes, gates)",
        "changes": "(chip, homes, gates)",
        "improve": "(network, chip, homes, gates)",
        "best_local_mapping": "(network, chip)",
    },
    "influence": {
        "lags": "(network)",
        "kept_neurons": "(network, wanted)",
        "part_of": "(network, wanted)",
    },
    "texts": {
        "format_network": "(network)",
        "parse_network": "(lines)",
        "parse_number": "(word)",
    },
}
METHODS = {
    "networks": {"Network": {"sources": "(self)"}},
    "mesh": {
        "Mesh": {"cores": "(self)"},
        "Traffic": {"put": "(self, core, packet)", "cycle": "(self)", "waiting": "(self)"},
    },
    "chips": {"ChipState": {"tick": "(self, stimulus)", "weights": "(self)", "saved": "(self)"}},
}
COMPARED = {
    "neurons": ["Neuron"],
    "networks": ["Synapse", "Rule", "Network", "Run"],
    "mesh": ["Mesh"],
    "mapping": ["Chip", "Mapping"],
    "chips": ["ChipRun"],
}


def package_files():
    return sorted(name for name in os.listdir(PACKAGE) if name != "__pycache__")


def text_of(name):
    with open(os.path.join(PACKAGE, name), encoding="utf-8") as file:
        return file.read()


def module_of(name):
    return importlib.import_module("spikehold." + name)


class InterfaceTest(unittest.TestCase):
    def test_names_and_arguments(self):
        for module, names in INTERFACE.items():
            for name, arguments in names.items():
                with self.subTest(module=module, name=name):
                    self.assertEqual(str(inspect.signature(getattr(module_of(module), name))), arguments)

    def test_each_name_is_defined_in_its_file(self):
        for module, names in INTERFACE.items():
            tree = ast.parse(text_of(module + ".py"))
            defined = {node.name for node in tree.body if isinstance(node, (ast.FunctionDef, ast.ClassDef))}
            self.assertEqual(set(names) - defined, set())

    def test_each_method_is_defined_in_its_class(self):
        for module, classes in METHODS.items():
            for name, methods in classes.items():
                for method, arguments in methods.items():
                    found = vars(getattr(module_of(module), name))[method]
                    self.assertEqual(str(inspect.signature(found)), arguments)

    def test_each_class_with_equality_defines_it(self):
        for module, names in COMPARED.items():
            for name in names:
                self.assertIn("__eq__", vars(getattr(module_of(module), name)))


class LanguageTest(unittest.TestCase):
    def test_the_folder_contains_python_files_only(self):
        for name in package_files():
            self.assertTrue(name.endswith(".py") and name == name.lower(), name)
        self.assertIn("__init__.py", package_files())

    def test_sizes_and_characters(self):
        for name in package_files():
            text = text_of(name)
            self.assertTrue(all(char == "\n" or " " <= char <= "~" for char in text), name)
            self.assertLessEqual(len(text.splitlines()), 399, name)
            self.assertLessEqual(max((len(line) for line in text.splitlines()), default=0), 120, name)
            for node in ast.walk(ast.parse(text)):
                if isinstance(node, ast.FunctionDef):
                    self.assertLessEqual(node.end_lineno - node.lineno + 1, 40, (name, node.name))

    def test_imports_are_from_the_package(self):
        for name in package_files():
            for node in ast.walk(ast.parse(text_of(name))):
                self.assertNotIsInstance(node, ast.Import, name)
                if isinstance(node, ast.ImportFrom) and node.module == "heapq":
                    self.assertLessEqual({alias.name for alias in node.names}, {"heappush", "heappop"}, name)
                elif isinstance(node, ast.ImportFrom):
                    self.assertTrue(node.module.startswith("spikehold."), (name, node.module))
                    self.assertEqual(node.level, 0, name)

    def test_nothing_outside_the_language(self):
        barred = (ast.Global, ast.AsyncFunctionDef, ast.Await, ast.Div)
        for name in package_files():
            for node in ast.walk(ast.parse(text_of(name))):
                self.assertNotIsInstance(node, barred, name)
                if isinstance(node, ast.Constant):
                    self.assertNotIsInstance(node.value, (float, complex), name)


if __name__ == "__main__":
    unittest.main()

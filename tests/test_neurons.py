"""Neurons and their steps (points 01.1 and 01.2)."""

import copy
import unittest

from spikehold.networks import Rule, Synapse
from spikehold.neurons import Neuron, step

FORTY_BITS = 1 << 40


class ConstantsTest(unittest.TestCase):
    def test_defaults(self):
        neuron = Neuron(7)
        self.assertEqual(neuron.threshold, 7)
        self.assertEqual(neuron.leak, 0)
        self.assertEqual(neuron.refractory, 0)
        self.assertEqual(neuron.floor, 0)
        self.assertIs(neuron.subtract, False)

    def test_given_values_are_kept(self):
        neuron = Neuron(1 << 20, leak=15, refractory=14, floor=-(1 << 20), subtract=True)
        self.assertEqual(neuron.threshold, 1 << 20)
        self.assertEqual(neuron.leak, 15)
        self.assertEqual(neuron.refractory, 14)
        self.assertEqual(neuron.floor, -(1 << 20))
        self.assertIs(neuron.subtract, True)

    def test_only_the_threshold_is_passed_by_position(self):
        self.assertEqual(Neuron(threshold=3), Neuron(3))
        with self.assertRaises(TypeError):
            Neuron(3, 1)
        with self.assertRaises(TypeError):
            Neuron()


class EqualityTest(unittest.TestCase):
    def test_equal_if_all_constants_are(self):
        self.assertTrue(Neuron(5) == Neuron(5))
        self.assertFalse(Neuron(5) != Neuron(5))
        one = Neuron(5, leak=1, refractory=2, floor=-3, subtract=True)
        other = Neuron(5, leak=1, refractory=2, floor=-3, subtract=True)
        self.assertTrue(one == other)

    def test_unequal_if_any_one_differs(self):
        constants = {"threshold": 5, "leak": 1, "refractory": 2, "floor": -3, "subtract": False}
        others = {"threshold": 6, "leak": 2, "refractory": 3, "floor": -4, "subtract": True}
        for name, value in others.items():
            changed = dict(constants)
            changed[name] = value
            with self.subTest(name=name):
                self.assertFalse(Neuron(**constants) == Neuron(**changed))
                self.assertTrue(Neuron(**constants) != Neuron(**changed))

    def test_unequal_to_values_of_other_classes(self):
        for other in (5, None, "5", (5, 0, 0, 0, False), [5], Synapse(5, 0, 0, 1), Rule(5, 0, 0, 0, 0)):
            self.assertIs(Neuron(5) == other, False)
            self.assertIs(other == Neuron(5), False)

    def test_the_other_class_does_not_decide(self):
        class EqualToAll:
            def __eq__(self, other):
                return True

            threshold, leak, refractory, floor, subtract = 5, 0, 0, 0, False

        self.assertIs(Neuron(5) == EqualToAll(), False)


class StepTest(unittest.TestCase):
    def assert_step(self, neuron, state, expected):
        found = step(neuron, *state)
        self.assertEqual(found, expected)
        self.assertIs(type(found), tuple)
        self.assertEqual([type(value) for value in found], [int, int, bool])

    def test_examples_of_the_document(self):
        self.assert_step(Neuron(10, leak=1, refractory=2), (8, 0, 7), (0, 2, True))
        self.assert_step(Neuron(10, subtract=True), (5, 1, 9), (14, 0, False))
        self.assert_step(Neuron(10, leak=2, floor=-3), (-8, 0, 1), (-3, 0, False))

    def test_the_first_tick(self):
        self.assert_step(Neuron(1), (0, 0, 0), (0, 0, False))
        self.assert_step(Neuron(1), (0, 0, 1), (0, 0, True))

    def test_leak_0_takes_nothing(self):
        self.assert_step(Neuron(100), (37, 0, 0), (37, 0, False))
        self.assert_step(Neuron(100, floor=-50), (-37, 0, 0), (-37, 0, False))

    def test_leaks_of_a_positive_potential(self):
        for leak, expected in ((1, 50), (2, 75), (3, 87), (6, 98), (7, 99), (15, 99)):
            self.assert_step(Neuron(1000, leak=leak), (99, 0, 0), (expected, 0, False))

    def test_leaks_of_a_negative_potential_round_towards_negative_infinity(self):
        # -7 >> 1 is -4, not -3; from 3 on, -7 >> leak is -1.
        for leak, expected in ((1, -3), (2, -5), (3, -6), (4, -6), (15, -6)):
            self.assert_step(Neuron(1000, leak=leak, floor=-100), (-7, 0, 0), (expected, 0, False))
        self.assert_step(Neuron(10, leak=15, floor=-100), (-1, 0, 0), (0, 0, False))

    def test_leak_of_15(self):
        self.assert_step(Neuron(1 << 20, leak=15), ((1 << 16) + 5, 0, 0), ((1 << 16) + 3, 0, False))

    def test_the_leak_comes_before_the_sum(self):
        self.assert_step(Neuron(100, leak=1), (10, 0, 10), (15, 0, False))

    def test_a_potential_below_the_floor_becomes_the_floor(self):
        neuron = Neuron(10, floor=-5)
        self.assert_step(neuron, (-3, 0, -2), (-5, 0, False))
        self.assert_step(neuron, (-3, 0, -3), (-5, 0, False))
        self.assert_step(neuron, (-3, 0, -1), (-4, 0, False))
        self.assert_step(Neuron(10), (0, 0, -1), (0, 0, False))
        self.assert_step(neuron, (0, 2, -100), (-5, 1, False))

    def test_the_floor_comes_after_the_sum_and_not_before(self):
        # The leaked potential lies below the floor, the sum lifts it above.
        self.assert_step(Neuron(10, leak=1, floor=-3), (-12, 0, 5), (-1, 0, False))

    def test_the_floor_does_not_count_after_the_spike(self):
        self.assert_step(Neuron(10, subtract=True), (0, 0, 10), (0, 0, True))

    def test_a_rest_hinders_a_spike(self):
        self.assert_step(Neuron(10, refractory=9), (8, 3, 7), (15, 2, False))
        self.assert_step(Neuron(10, refractory=9), (8, 1, 7), (15, 0, False))
        self.assert_step(Neuron(10, refractory=9), (15, 0, 0), (0, 9, True))

    def test_a_rest_is_reduced_below_the_threshold_too(self):
        self.assert_step(Neuron(10), (1, 15, 2), (3, 14, False))

    def test_a_potential_equal_to_the_threshold(self):
        self.assert_step(Neuron(10), (4, 0, 6), (0, 0, True))
        self.assert_step(Neuron(10), (4, 0, 5), (9, 0, False))
        self.assert_step(Neuron(10, subtract=True), (4, 0, 6), (0, 0, True))

    def test_subtract(self):
        self.assert_step(Neuron(10, subtract=True, refractory=4), (8, 0, 27), (25, 4, True))
        self.assert_step(Neuron(10, subtract=False, refractory=4), (8, 0, 27), (0, 4, True))

    def test_numbers_of_forty_bits(self):
        self.assert_step(Neuron(10, subtract=True), (FORTY_BITS, 0, FORTY_BITS), (2 * FORTY_BITS - 10, 0, True))
        self.assert_step(Neuron(10), (FORTY_BITS + 1, 1, FORTY_BITS + 2), (2 * FORTY_BITS + 3, 0, False))
        leaky = Neuron(10, leak=3, floor=-(1 << 20))
        self.assert_step(leaky, (-FORTY_BITS - 1, 0, FORTY_BITS), (0, 0, True))
        self.assert_step(leaky, (-FORTY_BITS - 1, 1, FORTY_BITS), (1 << 37, 0, False))
        self.assert_step(leaky, (FORTY_BITS, 0, -FORTY_BITS), (-(1 << 20), 0, False))
        self.assert_step(leaky, (-FORTY_BITS, 1, FORTY_BITS + 5), ((1 << 37) + 5, 0, False))

    def test_the_neuron_is_unchanged(self):
        neuron = Neuron(10, leak=1, refractory=2, floor=-3, subtract=True)
        before = copy.deepcopy(neuron)
        step(neuron, 8, 0, 7)
        self.assertEqual(neuron, before)


if __name__ == "__main__":
    unittest.main()

"""Every fault of a line raises InvalidLine with the index of the line (point 09.2)."""

import unittest

from spikehold.errors import InvalidLine, SpikeholdError
from spikehold.networks import Rule, Synapse
from spikehold.texts import parse_network

INPUTS = "inputs 2"
NEURON = "neuron 5 0 2 -7 reset"
SYNAPSE = "synapse 0 0 5 1 fixed"
PLASTIC = "synapse 0 0 5 1 plastic"
RULE = "rule 1 2 3 -4 5"
WHOLE = [INPUTS, NEURON, NEURON, SYNAPSE, PLASTIC, RULE]


def place_of_fault(lines):
    """Return the place of the first fault, or None."""
    try:
        parse_network(lines)
    except InvalidLine as error:
        return error.place
    return None


def changed_word(line, k, word):
    """Return a line with another word."""
    words = line.split(" ")
    words[k] = word
    return " ".join(words)


class LineTest(unittest.TestCase):
    def assert_faulty(self, line, at):
        """Assert that a line in the place of one of the whole text has a fault."""
        with self.subTest(line=line):
            self.assertEqual(place_of_fault(WHOLE[:at] + [line]), at)
            self.assertEqual(place_of_fault(WHOLE[:at] + [line] + WHOLE[at + 1:]), at)

    def assert_good(self, line, at):
        """Assert that a line in the place of one of the whole text has no fault."""
        with self.subTest(line=line):
            self.assertIsNone(place_of_fault(WHOLE[:at] + [line]))


class ErrorTest(unittest.TestCase):
    def test_the_whole_text_has_no_fault(self):
        for many in range(1, len(WHOLE) + 1):
            self.assertIsNone(place_of_fault(WHOLE[:many]))

    def test_the_error(self):
        with self.assertRaises(InvalidLine) as caught:
            parse_network(["inputs 1", "synapse 0 0 5 1 fixed"])
        self.assertIs(type(caught.exception), InvalidLine)
        self.assertIsInstance(caught.exception, SpikeholdError)
        self.assertEqual((caught.exception.place, type(caught.exception.place)), (1, int))

    def test_no_line(self):
        self.assertEqual(place_of_fault([]), 0)


class PositionTest(unittest.TestCase):
    def test_the_first_line_must_be_inputs(self):
        for line in (NEURON, SYNAPSE, RULE, "", "inputs", "nonsense"):
            self.assertEqual(place_of_fault([line]), 0)
            self.assertEqual(place_of_fault([line] + WHOLE), 0)

    def test_no_other_line_may_be_inputs(self):
        for at in range(1, len(WHOLE) + 1):
            self.assertEqual(place_of_fault(WHOLE[:at] + [INPUTS] + WHOLE[at:]), at)

    def test_a_neuron_behind_a_synapse_or_a_rule(self):
        self.assertEqual(place_of_fault([INPUTS, NEURON, SYNAPSE, NEURON]), 3)
        self.assertEqual(place_of_fault([INPUTS, NEURON, SYNAPSE, SYNAPSE, NEURON, SYNAPSE]), 4)
        self.assertEqual(place_of_fault([INPUTS, NEURON, RULE, NEURON]), 3)
        self.assertEqual(place_of_fault([INPUTS, RULE, NEURON]), 2)

    def test_any_line_behind_a_rule(self):
        for line in (INPUTS, NEURON, SYNAPSE, PLASTIC, RULE, "", "nonsense"):
            self.assertEqual(place_of_fault([INPUTS, NEURON, RULE, line]), 3)
            self.assertEqual(place_of_fault(WHOLE + [line]), len(WHOLE))

    def test_lines_that_may_be_missing(self):
        for lines in ([INPUTS], [INPUTS, NEURON], [INPUTS, RULE], [INPUTS, NEURON, RULE], [INPUTS, NEURON, PLASTIC]):
            self.assertIsNone(place_of_fault(lines))


class WordsTest(LineTest):
    def test_an_unknown_first_word(self):
        for word in ("input", "Inputs", "INPUTS", "neurons", "Neuron", "synapses", "rules", "", "5", "None", "#"):
            for at, line in enumerate(WHOLE):
                self.assert_faulty(changed_word(line, 0, word), at)

    def test_a_word_too_few(self):
        for at, line in enumerate(WHOLE):
            words = line.split(" ")
            for k in range(len(words)):
                self.assert_faulty(" ".join(words[:k] + words[k + 1:]), at)
            self.assert_faulty(words[0], at)

    def test_a_word_too_many(self):
        for at, line in enumerate(WHOLE):
            words = line.split(" ")
            for k in range(len(words) + 1):
                for word in ("0", "1", words[-1]):
                    if words[:k] + [word] + words[k:] != words:
                        self.assert_faulty(" ".join(words[:k] + [word] + words[k:]), at)

    def test_an_empty_word(self):
        for at, line in enumerate(WHOLE):
            words = line.split(" ")
            self.assert_faulty(" " + line, at)
            self.assert_faulty(line + " ", at)
            for k in range(1, len(words)):
                self.assert_faulty(" ".join(words[:k] + [""] + words[k:]), at)
                self.assert_faulty(changed_word(line, k, ""), at)

    def test_an_empty_line(self):
        for at in range(len(WHOLE)):
            self.assert_faulty("", at)
            self.assert_faulty(" ", at)

    def test_other_white_space(self):
        for at, line in enumerate(WHOLE):
            for other in (line + "\n", "\t" + line, line.replace(" ", "\t"), line.replace(" ", "\u00a0"), line + "\r"):
                self.assert_faulty(other, at)

    def test_the_last_words(self):
        for word in ("subtract", "reset"):
            self.assert_good(changed_word(NEURON, 5, word), 1)
            self.assert_faulty(changed_word(SYNAPSE, 5, word), 3)
        for word in ("plastic", "fixed"):
            self.assert_good(changed_word(SYNAPSE, 5, word), 3)
            self.assert_faulty(changed_word(NEURON, 5, word), 1)
        for word in ("Reset", "SUBTRACT", "Fixed", "plastics", "True", "False", "0", "1", "", "none"):
            self.assert_faulty(changed_word(NEURON, 5, word), 1)
            self.assert_faulty(changed_word(SYNAPSE, 5, word), 3)

    def test_words_that_write_no_number(self):
        wrong = ("00", "01", "-0", "-00", "+1", "+0", "-", "+", "--1", "1-", "12345678", "00000001", "1.0", "1_0")
        for at, line in enumerate(WHOLE):
            for k, word in enumerate(line.split(" ")):
                if word.removeprefix("-").isdigit():
                    for other in wrong + ("x", "one", "\u0661", "\u00b9", "\uff11", "\u22121", "1\n"):
                        self.assert_faulty(changed_word(line, k, other), at)


class BoundsTest(LineTest):
    def assert_bounds(self, at, k, least, most):
        """Assert that the word k of a line may be exactly the numbers between two ones."""
        for number in (least, least + 1, most - 1, most):
            self.assert_good(changed_word(WHOLE[at], k, str(number)), at)
        for number in (least - 1, most + 1, least - 1000, most + 1000, 9999999, -9999999):
            self.assert_faulty(changed_word(WHOLE[at], k, str(number)), at)

    def test_inputs(self):
        for number in (0, 1, 15, 16):
            self.assertEqual(parse_network([f"inputs {number}"]).inputs, number)
        for number in (-1, 17, 160, 9999999, -16):
            self.assertEqual(place_of_fault([f"inputs {number}"]), 0)

    def test_neurons(self):
        self.assert_bounds(1, 1, 1, 1 << 20)
        self.assert_bounds(1, 2, 0, 15)
        self.assert_bounds(1, 3, 0, 15)
        self.assert_bounds(1, 4, -(1 << 20), 0)

    def test_synapses(self):
        # Two inputs and two neurons.
        self.assert_bounds(3, 1, 0, 3)
        self.assert_bounds(3, 2, 0, 1)
        self.assert_bounds(3, 3, -(1 << 20), 1 << 20)
        self.assert_bounds(3, 4, 1, 15)

    def test_plastic_synapses_without_a_rule(self):
        self.assert_bounds(4, 1, 0, 3)
        self.assert_bounds(4, 2, 0, 1)
        self.assert_bounds(4, 3, -(1 << 20), 1 << 20)
        self.assert_bounds(4, 4, 1, 15)

    def test_rules(self):
        self.assert_bounds(5, 1, 0, 1000)
        self.assert_bounds(5, 2, 0, 1000)
        self.assert_bounds(5, 3, 0, 100)
        # The weight of the plastic synapse is 5.
        self.assert_bounds(5, 4, -(1 << 20), 5)
        self.assert_bounds(5, 5, 5, 1 << 20)

    def test_rules_without_synapses(self):
        for least, most in ((-(1 << 20), 1 << 20), (1 << 20, 1 << 20), (-(1 << 20), -(1 << 20))):
            self.assertEqual(
                parse_network([INPUTS, f"rule 0 0 0 {least} {most}"]).rule, Rule(0, 0, 0, least, most),
            )
        for least, most in ((-(1 << 20) - 1, 0), (0, (1 << 20) + 1)):
            self.assertEqual(place_of_fault([INPUTS, f"rule 0 0 0 {least} {most}"]), 1)


class SourceAndTargetTest(unittest.TestCase):
    def test_without_neurons_there_is_no_target(self):
        self.assertEqual(place_of_fault([INPUTS, SYNAPSE]), 1)
        self.assertEqual(place_of_fault(["inputs 0", SYNAPSE]), 1)

    def test_without_inputs_the_neurons_are_the_sources(self):
        lines = ["inputs 0", NEURON]
        self.assertEqual(parse_network(lines + [SYNAPSE]).synapses, [Synapse(0, 0, 5, 1)])
        self.assertEqual(place_of_fault(lines + ["synapse 1 0 5 1 fixed"]), 2)

    def test_the_last_source_and_the_last_target(self):
        for inputs in (0, 1, 16):
            for neurons in (1, 2, 30):
                lines = [f"inputs {inputs}"] + [NEURON] * neurons
                good = f"synapse {inputs + neurons - 1} {neurons - 1} 5 1 fixed"
                self.assertIsNone(place_of_fault(lines + [good]))
                for source, target in ((inputs + neurons, 0), (0, neurons), (-1, 0), (0, -1)):
                    wrong = f"synapse {source} {target} 5 1 fixed"
                    self.assertEqual(place_of_fault(lines + [wrong]), len(lines))
                    self.assertEqual(place_of_fault(lines + [good, wrong, good]), len(lines) + 1)


class RuleTest(unittest.TestCase):
    def place(self, weight, rule, kind="plastic"):
        return place_of_fault([INPUTS, NEURON, f"synapse 0 0 {weight} 1 {kind}", rule])

    def test_the_least_weight_is_not_greater_than_the_most(self):
        self.assertIsNone(place_of_fault([INPUTS, "rule 0 0 0 3 3"]))
        self.assertEqual(place_of_fault([INPUTS, "rule 0 0 0 4 3"]), 1)
        self.assertEqual(place_of_fault([INPUTS, "rule 0 0 0 1 -1"]), 1)
        self.assertEqual(self.place(0, "rule 0 0 0 1 -1", "fixed"), 3)

    def test_the_weight_of_a_plastic_synapse(self):
        for weight, place in ((-4, 3), (-3, None), (0, None), (7, None), (8, 3)):
            self.assertEqual(self.place(weight, "rule 0 0 0 -3 7"), place)

    def test_the_weight_of_a_fixed_synapse(self):
        for weight in (-4, -3, 7, 8, 1 << 20, -(1 << 20)):
            self.assertIsNone(self.place(weight, "rule 0 0 0 -3 7", "fixed"))

    def test_any_of_several_synapses(self):
        lines = [INPUTS, NEURON, PLASTIC, PLASTIC, SYNAPSE, PLASTIC]
        for at in (2, 3, 5):
            other = lines[:at] + ["synapse 0 0 6 1 plastic"] + lines[at + 1:]
            self.assertEqual(place_of_fault(other + [RULE]), 6)
            self.assertIsNone(place_of_fault(other + ["rule 1 2 3 -4 6"]))
        self.assertIsNone(place_of_fault(lines + [RULE]))


class FirstFaultTest(unittest.TestCase):
    def test_the_first_of_two_faults(self):
        wrong = ["inputs 17", "neuron 0 0 0 0 reset", "neuron 5 16 0 0 reset", "synapse 4 0 5 1 fixed",
                 "synapse 0 0 5 16 plastic", "rule 1 2 3 5 4"]
        for first in range(len(WHOLE)):
            for second in range(first + 1, len(WHOLE)):
                lines = list(WHOLE)
                lines[first], lines[second] = wrong[first], wrong[second]
                self.assertEqual(place_of_fault(lines), first)

    def test_a_line_out_of_place_and_a_wrong_one(self):
        self.assertEqual(place_of_fault([INPUTS, NEURON, SYNAPSE, NEURON, "nonsense"]), 3)
        self.assertEqual(place_of_fault([INPUTS, NEURON, "nonsense", SYNAPSE, NEURON]), 2)
        self.assertEqual(place_of_fault([NEURON, "nonsense"]), 0)


if __name__ == "__main__":
    unittest.main()

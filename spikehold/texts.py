"""Networks as text: a line for the inputs, for each neuron, for each synapse and for the rule."""

from spikehold.errors import InvalidLine
from spikehold.networks import Network, Rule, Synapse
from spikehold.neurons import Neuron

MOST_DIGITS = 7
# The least and the greatest of each number of a line. Those of a synapse depend on the lines before it.
BOUNDS = {
    "inputs": ((0, 16),),
    "neuron": ((1, 1 << 20), (0, 15), (0, 15), (-(1 << 20), 0)),
    "rule": ((0, 1000), (0, 1000), (0, 100), (-(1 << 20), 1 << 20), (-(1 << 20), 1 << 20)),
}
# The words for False and True at the end of a line.
ENDINGS = {"neuron": ("reset", "subtract"), "synapse": ("fixed", "plastic")}
# The lines that may stand behind a line; None stands for the beginning of the text.
FOLLOWERS = {
    None: ("inputs",),
    "inputs": ("neuron", "synapse", "rule"),
    "neuron": ("neuron", "synapse", "rule"),
    "synapse": ("synapse", "rule"),
    "rule": (),
}


def format_network(network):
    """Return the lines that write a network."""
    neurons = [_line_of_neuron(neuron) for neuron in network.neurons]
    synapses = [_line_of_synapse(synapse) for synapse in network.synapses]
    rules = [] if network.rule is None else [_line_of_rule(network.rule)]
    return [_line("inputs", [network.inputs])] + neurons + synapses + rules


def parse_network(lines):
    """Return the network that lines write. InvalidLine tells the first line with a fault."""
    if not lines:
        raise InvalidLine(0)
    inputs, neurons, synapses, rule = 0, [], [], None
    before = None
    for place, line in enumerate(lines):
        words = line.split(" ")
        values = _values(words, inputs, len(neurons))
        if values is None or words[0] not in FOLLOWERS[before]:
            raise InvalidLine(place)
        before = words[0]
        if before == "inputs":
            inputs = values[0]
        elif before == "neuron":
            neurons.append(_neuron(values))
        elif before == "synapse":
            synapses.append(Synapse(*values))
        else:
            rule = Rule(*values)
            if not _suits(rule, synapses):
                raise InvalidLine(place)
    return Network(inputs, neurons, synapses, rule)


def parse_number(word):
    """Return the number that a word writes, or None if it writes none."""
    digits = word.removeprefix("-")
    if not 1 <= len(digits) <= MOST_DIGITS or not all([digit in "0123456789" for digit in digits]):
        return None
    if digits.startswith("0") and word != "0":
        return None
    return int(word)


def _line_of_neuron(neuron):
    """Return the line of a neuron."""
    numbers = [neuron.threshold, neuron.leak, neuron.refractory, neuron.floor]
    return _line("neuron", numbers + [_ending("neuron", neuron.subtract)])


def _line_of_synapse(synapse):
    """Return the line of a synapse."""
    numbers = [synapse.source, synapse.target, synapse.weight, synapse.delay]
    return _line("synapse", numbers + [_ending("synapse", synapse.plastic)])


def _line_of_rule(rule):
    """Return the line of a learning rule."""
    return _line("rule", [rule.gain, rule.loss, rule.window, rule.least, rule.most])


def _line(word, values):
    """Return the line of a word and the values behind it."""
    return " ".join([word] + [str(value) for value in values])


def _ending(word, truth):
    """Return the last word of a line that writes a truth value."""
    return ENDINGS[word][1 if truth else 0]


def _values(words, inputs, neurons):
    """Return what the words behind the first one write, or None if they do not suit it."""
    bounds = _bounds(words[0], inputs, neurons)
    if bounds is None:
        return None
    if words[0] not in ENDINGS:
        return _numbers(words[1:], bounds)
    numbers = _numbers(words[1:-1], bounds)
    endings = ENDINGS[words[0]]
    if numbers is None or words[-1] not in endings:
        return None
    return numbers + [words[-1] == endings[1]]


def _bounds(word, inputs, neurons):
    """Return the least and the greatest of each number of a line, or None if no line begins with this word."""
    if word == "synapse":
        return (0, inputs + neurons - 1), (0, neurons - 1), (-(1 << 20), 1 << 20), (1, 15)
    return BOUNDS.get(word)


def _numbers(words, bounds):
    """Return the numbers that words write, or None if one writes none or one outside its bounds."""
    if len(words) != len(bounds):
        return None
    numbers = [parse_number(word) for word in words]
    for number, (least, most) in zip(numbers, bounds):
        if number is None or not least <= number <= most:
            return None
    return numbers


def _neuron(values):
    """Return the neuron of the values of a line."""
    threshold, leak, refractory, floor, subtract = values
    return Neuron(threshold, leak=leak, refractory=refractory, floor=floor, subtract=subtract)


def _suits(rule, synapses):
    """Return whether the bounds of a rule are in order, and the weights of plastic synapses between them."""
    between = [rule.least <= synapse.weight <= rule.most for synapse in synapses if synapse.plastic]
    return rule.least <= rule.most and all(between)

"""Networks and stimuli for the tests, made from a number, and runs of them by the words of point 02.4."""

from spikehold.networks import Network, Rule, Synapse
from spikehold.neurons import Neuron, step


class Numbers:
    """Numbers that look arbitrary and are the same in each run of the tests."""

    def __init__(self, seed):
        self.state = seed * 2654435761 + 12345

    def below(self, bound):
        self.state = (self.state * 6364136223846793005 + 1442695040888963407) % (1 << 64)
        return (self.state >> 33) % bound

    def between(self, least, most):
        return least + self.below(most - least + 1)

    def shuffled(self, values):
        left = list(values)
        return [left.pop(self.below(len(left))) for _ in values]


def made_neuron(numbers):
    return Neuron(
        numbers.between(1, 12),
        leak=numbers.below(4),
        refractory=numbers.below(4),
        floor=-numbers.below(9),
        subtract=numbers.below(2) == 1,
    )


def made_network(numbers, with_rule):
    """Return a network in which much happens: short delays now and then, mostly positive weights."""
    inputs = numbers.between(1, 4)
    neurons = [made_neuron(numbers) for _ in range(numbers.between(1, 7))]
    rule = None
    if with_rule:
        rule = Rule(numbers.below(5), numbers.below(5), numbers.below(7), numbers.between(-6, 0), numbers.between(3, 9))
    synapses = []
    for _ in range(numbers.between(0, 30)):
        source = numbers.below(inputs + len(neurons))
        target = numbers.below(len(neurons))
        weight = numbers.between(-2, 9) if rule is None else numbers.between(rule.least, rule.most)
        delay = numbers.between(1, 3 if numbers.below(4) else 15)
        synapses.append(Synapse(source, target, weight, delay, numbers.below(3) > 0))
    return Network(inputs, neurons, synapses, rule)


def made_stimuli(numbers, inputs, ticks):
    return [[i for i in range(inputs) if numbers.below(3) == 0] for _ in range(ticks)]


def last_before(tick, ticks):
    """Return the last of the ticks that is at most the given one, or None."""
    return max((one for one in ticks if one <= tick), default=None)


def run_by_the_words(network, stimuli):
    """Return the spikes and the weights, from the whole history and synapse by synapse."""
    state = [(0, 0)] * len(network.neurons)
    weights = [synapse.weight for synapse in network.synapses]
    sources_of_tick, spikes = {}, []
    arrivals = [[] for _ in network.synapses]
    spike_ticks = [[] for _ in network.neurons]
    for t, stimulus in enumerate(stimuli):
        for k, synapse in enumerate(network.synapses):
            if synapse.source in sources_of_tick.get(t - synapse.delay, ()):
                arrivals[k].append(t)
        sums = [
            sum(weights[k] for k, one in enumerate(network.synapses) if one.target == n and t in arrivals[k])
            for n in range(len(network.neurons))
        ]
        for k, synapse in enumerate(network.synapses):
            last = last_before(t - 1, spike_ticks[synapse.target])
            if network.rule and synapse.plastic and t in arrivals[k] and last is not None:
                if t - last <= network.rule.window:
                    weights[k] = max(network.rule.least, weights[k] - network.rule.loss)
        spikes.append([])
        for n, neuron in enumerate(network.neurons):
            potential, rest, spiked = step(neuron, *state[n], sums[n])
            state[n] = (potential, rest)
            if spiked:
                spikes[t].append(n)
                spike_ticks[n].append(t)
        for k, synapse in enumerate(network.synapses):
            last = last_before(t, arrivals[k])
            if network.rule and synapse.plastic and synapse.target in spikes[t] and last is not None:
                if t - last <= network.rule.window:
                    weights[k] = min(network.rule.most, weights[k] + network.rule.gain)
        sources_of_tick[t] = set(stimulus) | {network.inputs + n for n in spikes[t]}
    return spikes, weights

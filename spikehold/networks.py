"""Networks of neurons and synapses, the learning rule, and runs of networks."""

from spikehold.neurons import step


class Synapse:
    """A connection from a source, an input or a neuron, to a neuron."""

    def __init__(self, source, target, weight, delay, plastic=False):
        self.source = source
        self.target = target
        self.weight = weight
        self.delay = delay
        self.plastic = plastic

    def __eq__(self, other):
        return (
            isinstance(other, Synapse)
            and self.source == other.source
            and self.target == other.target
            and self.weight == other.weight
            and self.delay == other.delay
            and self.plastic == other.plastic
        )


class Rule:
    """A learning rule: how the weights of plastic synapses change."""

    def __init__(self, gain, loss, window, least, most):
        self.gain = gain
        self.loss = loss
        self.window = window
        self.least = least
        self.most = most

    def __eq__(self, other):
        return (
            isinstance(other, Rule)
            and self.gain == other.gain
            and self.loss == other.loss
            and self.window == other.window
            and self.least == other.least
            and self.most == other.most
        )


class Network:
    """Inputs, neurons and synapses, and a learning rule or None."""

    def __init__(self, inputs, neurons, synapses, rule=None):
        self.inputs = inputs
        self.neurons = list(neurons)
        self.synapses = list(synapses)
        self.rule = rule

    def __eq__(self, other):
        return (
            isinstance(other, Network)
            and self.inputs == other.inputs
            and self.neurons == other.neurons
            and self.synapses == other.synapses
            and self.rule == other.rule
        )

    def sources(self):
        """Return the number of sources: the inputs and then the neurons."""
        return self.inputs + len(self.neurons)


class Run:
    """The spikes of each tick of a run, and the weights at its end."""

    def __init__(self, spikes, weights):
        self.spikes = list(spikes)
        self.weights = list(weights)

    def __eq__(self, other):
        return isinstance(other, Run) and self.spikes == other.spikes and self.weights == other.weights


def depressed(rule, weight):
    """Return a weight after a loss."""
    return max(weight - rule.loss, rule.least)


def potentiated(rule, weight):
    """Return a weight after a gain."""
    return min(weight + rule.gain, rule.most)


def run(network, stimuli):
    """Return the run of a network, with one tick for each stimulus."""
    state = state_at_start(network)
    fired = []
    spikes = []
    for tick, stimulus in enumerate(stimuli):
        state, spiking = state_after(network, state, _arriving(network, fired, tick), tick)
        fired.append(_spiking_sources(network, stimulus, spiking))
        spikes.append(spiking)
    return Run(spikes, weights_of(state))


def state_at_start(network):
    """Return the state of the neurons and synapses before the first tick.

    It is a tuple of tuples: the potentials and rests of the neurons, the ticks of their last spikes,
    the weights of the synapses, and the ticks of their last arrivals.
    """
    zeros = (0,) * len(network.neurons)
    weights = tuple([synapse.weight for synapse in network.synapses])
    return zeros, zeros, (None,) * len(network.neurons), weights, (None,) * len(network.synapses)


def state_after(network, state, arriving, tick):
    """Return the state after a tick in which some synapses arrive, by their indexes, and the neurons that spike."""
    potentials, rests, last_spikes, weights, last_arrivals = state
    # The sums come first: the loss of this tick does not count in it.
    sums = _incoming_sums(network, weights, arriving)
    weights = _after_losses(network, weights, arriving, last_spikes, tick)
    last_arrivals = _noted(last_arrivals, arriving, tick)
    potentials, rests, spiking = after_steps(network, potentials, rests, sums)
    weights = _after_gains(network, weights, spiking, last_arrivals, tick)
    last_spikes = _noted(last_spikes, spiking, tick)
    return (potentials, rests, last_spikes, weights, last_arrivals), spiking


def after_steps(network, potentials, rests, sums):
    """Return the potentials and rests after each neuron did its step, as tuples, and the neurons that spike."""
    steps = [
        step(neuron, potentials[n], rests[n], sums[n])
        for n, neuron in enumerate(network.neurons)
    ]
    spiking = [n for n, row in enumerate(steps) if row[2]]
    return tuple([row[0] for row in steps]), tuple([row[1] for row in steps]), spiking


def weights_of(state):
    """Return the weights of a state."""
    return list(state[3])


def _arriving(network, fired, tick):
    """Return the indexes of the synapses that arrive in a tick."""
    return [k for k, synapse in enumerate(network.synapses) if _has_fired(fired, tick - synapse.delay, synapse.source)]


def _has_fired(fired, tick, source):
    """Return whether a source spiked in a tick, by the sources that spiked in each tick so far."""
    return 0 <= tick < len(fired) and source in fired[tick]


def _incoming_sums(network, weights, arriving):
    """Return for each neuron the sum of the weights that arrive at it."""
    sums = [0] * len(network.neurons)
    for k in arriving:
        sums[network.synapses[k].target] += weights[k]
    return sums


def _after_losses(network, weights, arriving, last_spikes, tick):
    """Return the weights after the losses of a tick, by the last spikes before it."""
    rule = network.rule
    if rule is None:
        return weights
    changed = list(weights)
    for k in arriving:
        synapse = network.synapses[k]
        if synapse.plastic and _is_recent(last_spikes[synapse.target], tick, rule.window):
            changed[k] = depressed(rule, weights[k])
    return tuple(changed)


def _after_gains(network, weights, spiking, last_arrivals, tick):
    """Return the weights after the gains of a tick, by the last arrivals up to it."""
    rule = network.rule
    if rule is None:
        return weights
    changed = list(weights)
    spikes_now = {n: True for n in spiking}
    for k, synapse in enumerate(network.synapses):
        if synapse.plastic and synapse.target in spikes_now and _is_recent(last_arrivals[k], tick, rule.window):
            changed[k] = potentiated(rule, weights[k])
    return tuple(changed)


def _is_recent(last, tick, window):
    """Return whether something happened, the last time at most `window` ticks before a tick."""
    return last is not None and tick - last <= window


def _noted(ticks, indexes, tick):
    """Return the ticks with this tick at each of the indexes."""
    noted = list(ticks)
    for k in indexes:
        noted[k] = tick
    return tuple(noted)


def _spiking_sources(network, stimulus, spiking):
    """Return the sources that spike in a tick, as the keys of a dict."""
    sources = list(stimulus) + [network.inputs + n for n in spiking]
    return {source: True for source in sources}

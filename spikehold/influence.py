"""Which sources can matter to which neurons, how soon, and the part of a network that matters to some."""

from heapq import heappop, heappush

from spikehold.networks import Network, Synapse


def lags(network):
    """Return for each source the list of its lags to the neurons, None where there is none."""
    leading = _leading_from(network)
    return [_lags_from(network, leading, source) for source in range(network.sources())]


def kept_neurons(network, wanted):
    """Return the ascending list of the wanted neurons and of those that matter to one of them."""
    feeding = _feeding(network)
    kept = {n: True for n in wanted}
    waiting = list(kept)
    while waiting:
        for n in feeding[waiting.pop()]:
            if n not in kept:
                kept[n] = True
                waiting.append(n)
    return sorted(list(kept))


def part_of(network, wanted):
    """Return the part of a network that matters to the wanted neurons."""
    kept = kept_neurons(network, wanted)
    places = {n: k for k, n in enumerate(kept)}
    synapses = [_renumbered(network, synapse, places) for synapse in network.synapses if synapse.target in places]
    return Network(network.inputs, [network.neurons[n] for n in kept], synapses, network.rule)


def _leading_from(network):
    """Return for each source the pairs (delay, target) of its synapses."""
    leading = [[] for _ in range(network.sources())]
    for synapse in network.synapses:
        leading[synapse.source].append((synapse.delay, synapse.target))
    return leading


def _lags_from(network, leading, source):
    """Return the lags of a source to the neurons."""
    found = [None] * len(network.neurons)
    queue = []
    for delay, target in leading[source]:
        heappush(queue, (delay, target))
    while queue:
        lag, n = heappop(queue)
        # The least sums come first out of the queue.
        if found[n] is None:
            found[n] = lag
            for delay, target in leading[network.inputs + n]:
                if found[target] is None:
                    heappush(queue, (lag + delay, target))
    return found


def _feeding(network):
    """Return for each neuron the neurons from which a synapse leads to it."""
    feeding = [[] for _ in network.neurons]
    for synapse in network.synapses:
        if synapse.source >= network.inputs:
            feeding[synapse.target].append(synapse.source - network.inputs)
    return feeding


def _renumbered(network, synapse, places):
    """Return a synapse with the numbers that its source and target have among the kept neurons."""
    source = synapse.source
    if source >= network.inputs:
        source = network.inputs + places[source - network.inputs]
    return Synapse(source, places[synapse.target], synapse.weight, synapse.delay, synapse.plastic)

"""Networks and claims for the tests, and the words of chapter 06 done in the plainest way."""

from itertools import product

from made_networks import made_neuron
from spikehold.networks import Network, Synapse, run
from spikehold.neurons import step


def made_claim_network(numbers, most_delay=3):
    """Return a network of one or two inputs and a few neurons, mostly with short delays."""
    inputs = numbers.between(1, 2)
    neurons = [made_neuron(numbers) for _ in range(numbers.between(2, 3))]
    # Each input leads somewhere, since nothing happens otherwise.
    sources = list(range(inputs)) + [numbers.below(inputs + len(neurons)) for _ in range(numbers.below(6))]
    synapses = []
    for k, source in enumerate(sources):
        weight = numbers.between(-2 if k >= inputs else 4, 12)
        synapses.append(Synapse(source, numbers.below(len(neurons)), weight, numbers.between(1, most_delay)))
    return Network(inputs, neurons, synapses)


def claims_about(numbers, network):
    """Return one claim of each kind."""
    n = numbers.below(len(network.neurons))
    other = (n + 1) % len(network.neurons)
    return [
        ("never", n),
        ("apart", n, other),
        ("answer", numbers.below(network.inputs), n, numbers.between(1, 4)),
    ]


def stimuli_of(network, ticks):
    """Return the stimuli of all runs of so many ticks, those with lower numbers first."""
    numbers = range(2 ** network.inputs)
    return [
        [[i for i in range(network.inputs) if k // 2 ** i % 2] for k in one]
        for one in product(numbers, repeat=ticks)
    ]


def first_break(claim, stimuli, spikes):
    """Return the first tick by which a run breaks a claim, by the words of point 06.1, or None."""
    for tick, spiking in enumerate(spikes):
        if claim[0] == "never" and claim[1] in spiking:
            return tick
        if claim[0] == "apart" and claim[1] in spiking and claim[2] in spiking:
            return tick
        if claim[0] == "answer":
            _, i, n, d = claim
            asked = tick - d
            if asked >= 0 and i in stimuli[asked] and not any(n in spikes[t] for t in range(asked + 1, tick + 1)):
                return tick
    return None


def shortest_break(network, claim, most_ticks):
    """Return the first stimuli, among those with the fewest ticks, whose last tick breaks a claim, or None."""
    for ticks in range(1, most_ticks + 1):
        for stimuli in stimuli_of(network, ticks):
            if first_break(claim, stimuli, run(network, stimuli).spikes) == ticks - 1:
                return stimuli
    return None


def advance_by_the_words(network, state, stimulus):
    """Return the state after a tick and the spikes, by point 06.2."""
    potentials, rests, pending = state
    found = [
        step(neuron, potentials[n], rests[n], pending[0][n])
        for n, neuron in enumerate(network.neurons)
    ]
    spikes = [n for n, (_, _, spiked) in enumerate(found) if spiked]
    spiking = list(stimulus) + [network.inputs + n for n in spikes]
    later = []
    for k in range(15):
        before = pending[k + 1] if k < 14 else (0,) * len(network.neurons)
        later.append(tuple(
            before[n] + sum(
                one.weight * spiking.count(one.source)
                for one in network.synapses if one.target == n and one.delay == k + 1
            )
            for n in range(len(network.neurons))
        ))
    return (tuple(one[0] for one in found), tuple(one[1] for one in found), tuple(later)), spikes


def watch_by_the_words(claim, watch, stimulus, spikes):
    """Return the watch after a tick and whether the tick breaks the claim, by points 06.3 and 06.4."""
    if claim[0] == "never":
        return 0, claim[1] in spikes
    if claim[0] == "apart":
        return 0, claim[1] in spikes and claim[2] in spikes
    _, i, n, d = claim
    breaks = watch == 1 and n not in spikes
    if watch > 0 and n in spikes:
        watch = 0
    elif watch > 0:
        watch -= 1
    if watch == 0 and i in stimulus:
        watch = d
    return watch, breaks


def decide_by_the_words(network, claim, most):
    """Return the answer of the search of point 06.6, with the way to each pair kept as its stimuli."""
    zeros = (0,) * len(network.neurons)
    pairs = [((zeros, zeros, (zeros,) * 15), 0)]
    ways = [[]]
    taken = 0
    while taken < len(pairs):
        state, watch = pairs[taken]
        for [stimulus] in stimuli_of(network, 1):
            after, spikes = advance_by_the_words(network, state, stimulus)
            watch_after, breaks = watch_by_the_words(claim, watch, stimulus, spikes)
            if breaks:
                return "breaks", ways[taken] + [stimulus]
            if (after, watch_after) not in pairs:
                if len(pairs) == most:
                    return "open", most
                pairs.append((after, watch_after))
                ways.append(ways[taken] + [stimulus])
        taken += 1
    return "holds", pairs

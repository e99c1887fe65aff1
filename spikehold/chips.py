"""Chips that run networks: tick by tick, with spikes that travel through the mesh."""

from spikehold.mapping import entry
from spikehold.mesh import deliver_within
from spikehold.networks import Network, Synapse, state_after, state_at_start, weights_of


class ChipRun:
    """The spikes of each tick of a run of a chip, the weights at its end, and the overrun tick or None."""

    def __init__(self, spikes, weights, overrun):
        self.spikes = list(spikes)
        self.weights = None if weights is None else list(weights)
        self.overrun = overrun

    def __eq__(self, other):
        return (
            isinstance(other, ChipRun)
            and self.spikes == other.spikes
            and self.weights == other.weights
            and self.overrun == other.overrun
        )


class ChipState:
    """A chip that runs a network by a mapping. At first it is before the tick 0.

    What a core holds is a tuple: the state of its neurons and rows, and for each row the ticks in which
    it arrives. All of it is tuples, integers and None, so that it can be saved as it is.
    """

    def __init__(self, network, chip, mapping):
        self.network = network
        self.chip = chip
        self.mapping = mapping
        self.neurons = [_neurons_at(mapping, core) for core in range(chip.mesh.cores())]
        self.parts = [_part_of_core(network, self.neurons[core], rows) for core, rows in enumerate(mapping.rows)]
        self.now = 0
        self.held = tuple([(state_at_start(part), ((),) * len(part.synapses)) for part in self.parts])

    def tick(self, stimulus):
        """Do one tick, and return the neurons that spiked and whether the tick was overrun."""
        steps = [_after_steps(part, self.held[core], self.now) for core, part in enumerate(self.parts)]
        spiking = sorted([self.neurons[core][k] for core, row in enumerate(steps) for k in row[1]])
        sources = list(stimulus) + [self.network.inputs + n for n in spiking]
        packets = packets_of(self.network, self.mapping, sources)
        _, deliveries, waiting = deliver_within(self.chip.mesh, packets, self.chip.cycles)
        delivered = _delivered_sources(self.chip.mesh, deliveries)
        self.held = tuple([
            _after_deliveries(part, steps[core][0], delivered[core], self.now)
            for core, part in enumerate(self.parts)
        ])
        self.now += 1
        return spiking, waiting > 0

    def weights(self):
        """Return the list of the weights of the rows for each core."""
        return [weights_of(state) for state, _ in self.held]

    def saved(self):
        """Return the state between two ticks as a tuple of integers, tuples and None."""
        return self.now, self.held


def packets_of(network, mapping, sources):
    """Return the packets (core, destination, source) of the sources that spike in a tick."""
    return [
        (entry(network, mapping, source), core, source)
        for source in sources
        for core in mapping.routes[source]
    ]


def restored(network, chip, mapping, saved):
    """Return a chip with the state that another one has saved."""
    state = ChipState(network, chip, mapping)
    state.now, state.held = saved
    return state


def run_chip(network, chip, mapping, stimuli):
    """Return the run of a chip, with one tick for each stimulus up to the first overrun."""
    state = ChipState(network, chip, mapping)
    spikes = []
    for tick, stimulus in enumerate(stimuli):
        spiking, overrun = state.tick(stimulus)
        spikes.append(spiking)
        if overrun:
            return ChipRun(spikes, None, tick)
    return ChipRun(spikes, state.weights(), None)


def _part_of_core(network, neurons, rows):
    """Return the network of the neurons and rows of a core; sources keep their numbers in the whole network."""
    places = {n: k for k, n in enumerate(neurons)}
    synapses = [
        Synapse(source, places[target], weight, delay, plastic)
        for source, target, weight, delay, plastic in rows
    ]
    return Network(network.inputs, [network.neurons[n] for n in neurons], synapses, network.rule)


def _neurons_at(mapping, core):
    """Return the neurons that a core holds, ascending."""
    return [n for n, home in enumerate(mapping.homes) if home == core]


def _after_steps(part, held, now):
    """Return what a core holds after the steps 1 to 4 of a tick, and the places of its neurons that spike."""
    state, arrivals = held
    arriving = [k for k, ticks in enumerate(arrivals) if now in ticks]
    changed, spiking = state_after(part, state, arriving, now)
    return (changed, arrivals), spiking


def _delivered_sources(mesh, deliveries):
    """Return for each core the sources of the packets that were delivered to it, as the keys of a dict."""
    delivered = [{} for _ in range(mesh.cores())]
    for core, source in deliveries:
        delivered[core][source] = True
    return delivered


def _after_deliveries(part, held, sources, now):
    """Return what a core holds after packets of these sources were delivered to it in a tick."""
    state, arrivals = held
    noted = [
        _later(ticks, now) + ((now + synapse.delay,) if synapse.source in sources else ())
        for synapse, ticks in zip(part.synapses, arrivals)
    ]
    return state, tuple(noted)


def _later(ticks, now):
    """Return the ticks that are still to come."""
    return tuple([tick for tick in ticks if tick > now])

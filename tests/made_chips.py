"""Chips and mappings for the tests, made from numbers, and the words of chapters 03 to 05 done step by step."""

from made_networks import run_by_the_words
from spikehold.mapping import Chip, Mapping
from spikehold.mesh import Mesh
from spikehold.networks import Network, Rule, Synapse
from spikehold.neurons import Neuron

STEPS = {"west": (-1, 0), "east": (1, 0), "north": (0, -1), "south": (0, 1), "home": (0, 0)}
OTHER_SIDE = {"west": "east", "east": "west", "north": "south", "south": "north"}
SIDES = ["north", "south", "west", "east", "core"]


class TrafficByTheWords:
    """The packets of a mesh by point 03.4: each cycle builds a new state from the one at its beginning."""

    def __init__(self, mesh):
        self.mesh = mesh
        self.places = [(x, y) for y in range(mesh.height) for x in range(mesh.width)]
        self.queues = {(place, side): () for place in self.places for side in SIDES + ["outbox"]}

    def put(self, core, packet):
        self.queues[self.places[core], "outbox"] += (packet,)

    def way_at(self, place, packet):
        (x, y), (to_x, to_y) = place, self.places[packet[0]]
        if to_x != x:
            return "west" if to_x < x else "east"
        if to_y != y:
            return "north" if to_y < y else "south"
        return "home"

    def cycle(self):
        before, after, deliveries = self.queues, dict(self.queues), []

        def move(place, side, target):
            if target is None:
                deliveries.append((self.places.index(place), before[place, side][0][1]))
            elif len(before[target]) < self.mesh.room:
                after[target] += (before[place, side][0],)
            else:
                return
            after[place, side] = after[place, side][1:]

        for place in self.places:
            for going, (right, down) in STEPS.items():
                wanting = [side for side in SIDES if before[place, side]
                           and self.way_at(place, before[place, side][0]) == going]
                if wanting:
                    following = (place[0] + right, place[1] + down)
                    move(place, wanting[0], None if going == "home" else (following, OTHER_SIDE[going]))
            if before[place, "outbox"]:
                move(place, "outbox", (place, "core"))
        self.queues = after
        return deliveries

    def waiting(self):
        return sum(len(queue) for queue in self.queues.values())


def deliver_by_the_words(mesh, packets):
    traffic = TrafficByTheWords(mesh)
    for core, destination, source in packets:
        traffic.put(core, (destination, source))
    cycles, deliveries = 0, []
    while traffic.waiting():
        deliveries += traffic.cycle()
        cycles += 1
    return cycles, deliveries


def made_mesh(numbers):
    return Mesh(numbers.between(1, 4), numbers.between(1, 4), numbers.between(1, 3))


def made_packets(numbers, mesh, many):
    cores = mesh.cores()
    return [(numbers.below(cores), numbers.below(cores), numbers.below(100)) for _ in range(many)]


def made_chip(numbers, network):
    """Return a chip with a few more places than the network needs, and mostly with many cycles."""
    mesh = made_mesh(numbers)
    slots = -(-len(network.neurons) // mesh.cores()) + numbers.below(3)
    return Chip(mesh, max(1, slots), numbers.between(1, 40) if numbers.below(3) == 0 else 100000)


def made_mapping(numbers, network, chip):
    """Return a mapping without a fault: neurons anywhere, routes and rows in any order, needless cores."""
    cores = chip.mesh.cores()
    places = numbers.shuffled([core for core in range(cores) for _ in range(chip.slots)])
    homes = places[:len(network.neurons)]
    gates = [numbers.below(cores) for _ in range(network.inputs)]
    routes, rows = [], [[] for _ in range(cores)]
    for source in range(network.inputs + len(network.neurons)):
        needed = {homes[synapse.target] for synapse in network.synapses if synapse.source == source}
        needless = {core for core in range(cores) if numbers.below(6) == 0}
        routes.append(numbers.shuffled(sorted(needed | needless)))
    for synapse in numbers.shuffled(network.synapses):
        row = (synapse.source, synapse.target, synapse.weight, synapse.delay, synapse.plastic)
        rows[homes[synapse.target]].append(row)
    return Mapping(homes, gates, routes, rows)


def chip_run_by_the_words(network, chip, mapping, stimuli):
    """Return spikes, weights and the overrun tick, by point 05.3 from the run of the network."""
    spikes, weights = run_by_the_words(network, stimuli)
    entries = mapping.gates + mapping.homes
    for tick, stimulus in enumerate(stimuli):
        sources = stimulus + [network.inputs + n for n in spikes[tick]]
        packets = [(entries[source], core, source) for source in sources for core in mapping.routes[source]]
        if deliver_by_the_words(chip.mesh, packets)[0] > chip.cycles:
            return spikes[:tick + 1], None, tick
    return spikes, weights, None


def weight_of_each_row(network, mapping, weights):
    """Return for each core the sorted pairs of a row and its weight, if the synapses have these weights."""
    pairs = [[] for _ in mapping.rows]
    for synapse, weight in zip(network.synapses, weights):
        row = (synapse.source, synapse.target, synapse.weight, synapse.delay, synapse.plastic)
        pairs[mapping.homes[synapse.target]].append((row, weight))
    return [sorted(one) for one in pairs]


def chain():
    """Return the network of the document's examples: an input, and two neurons in a row."""
    return Network(1, [Neuron(5), Neuron(5)], [Synapse(0, 0, 5, 1), Synapse(1, 1, 3, 2)])


def learning_ring():
    """Return a network in which three neurons drive each other and all weights change."""
    neurons = [Neuron(4, refractory=1), Neuron(4, leak=2), Neuron(4, subtract=True)]
    synapses = [
        Synapse(0, 0, 5, 1, True), Synapse(0, 2, 3, 15, True), Synapse(1, 0, 4, 2),
        Synapse(2, 1, 5, 1, True), Synapse(3, 2, 5, 3, True), Synapse(4, 0, 4, 4, True), Synapse(4, 0, 4, 4, True),
    ]
    return Network(2, neurons, synapses, Rule(2, 1, 4, -3, 9))

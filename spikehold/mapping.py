"""Chips, mappings of networks to chips, how they are judged, and the simple mapping."""

from spikehold.errors import TooSmall
from spikehold.mesh import distance


class Chip:
    """A mesh, the number of neurons that each core can hold, and the number of cycles in each tick."""

    def __init__(self, mesh, slots, cycles):
        self.mesh = mesh
        self.slots = slots
        self.cycles = cycles

    def __eq__(self, other):
        return (
            isinstance(other, Chip)
            and self.mesh == other.mesh
            and self.slots == other.slots
            and self.cycles == other.cycles
        )


class Mapping:
    """Where the neurons and inputs of a network stand on a chip, and where their spikes go."""

    def __init__(self, homes, gates, routes, rows):
        self.homes = list(homes)
        self.gates = list(gates)
        self.routes = [list(route) for route in routes]
        self.rows = [list(listed) for listed in rows]

    def __eq__(self, other):
        return (
            isinstance(other, Mapping)
            and self.homes == other.homes
            and self.gates == other.gates
            and self.routes == other.routes
            and self.rows == other.rows
        )


def row_of(synapse):
    """Return the row of a synapse."""
    return synapse.source, synapse.target, synapse.weight, synapse.delay, synapse.plastic


def judge(network, chip, mapping):
    """Return the first fault of a mapping, a word and an index, or None."""
    # In this order, each one relies on what those before it have found without a fault.
    return (
        _fault_of_places("homes", mapping.homes, len(network.neurons), chip)
        or _fault_of_slots(mapping.homes, chip)
        or _fault_of_places("gates", mapping.gates, network.inputs, chip)
        or _fault_of_routes(network, chip, mapping)
        or _fault_of_rows(network, chip, mapping)
    )


def simple_mapping(network, chip):
    """Return the mapping that fills one core after the other."""
    cores = chip.mesh.cores()
    places = cores * chip.slots
    if len(network.neurons) > places:
        raise TooSmall(places)
    homes = [n // chip.slots for n in range(len(network.neurons))]
    gates = [i % cores for i in range(network.inputs)]
    return mapping_with(network, chip, homes, gates)


def mapping_with(network, chip, homes, gates):
    """Return the mapping with these homes and gates and no needless core in a route."""
    return Mapping(homes, gates, _needed_routes(network, homes), _needed_rows(network, chip, homes))


def entry(network, mapping, source):
    """Return the core at which the packets of a source start."""
    if source < network.inputs:
        return mapping.gates[source]
    return mapping.homes[source - network.inputs]


def enough_cycles(network, chip, mapping):
    """Return a number of cycles in which the packets of any tick are delivered."""
    moves = [
        distance(chip.mesh, entry(network, mapping, source), core) + 2
        for source, route in enumerate(mapping.routes)
        for core in route
    ]
    return sum(moves)


def _needed_routes(network, homes):
    """Return for each source the ascending list of the homes of its targets."""
    needed = [{} for _ in range(network.sources())]
    for synapse in network.synapses:
        needed[synapse.source][homes[synapse.target]] = True
    return [sorted(list(cores)) for cores in needed]


def _needed_rows(network, chip, homes):
    """Return for each core the rows of the synapses whose targets it holds, in the order of the synapses."""
    needed = [[] for _ in range(chip.mesh.cores())]
    for synapse in network.synapses:
        needed[homes[synapse.target]].append(row_of(synapse))
    return needed


def _is_core(chip, core):
    """Return whether a number is the number of a core."""
    return 0 <= core < chip.mesh.cores()


def _fault_of_places(word, places, many, chip):
    """Return the first fault of a list that tells one core for each of so many things, or None."""
    if len(places) != many:
        return word, many
    for k, core in enumerate(places):
        if not _is_core(chip, core):
            return word, k
    return None


def _fault_of_slots(homes, chip):
    """Return the fault of the first core that holds too many neurons, or None."""
    for core in range(chip.mesh.cores()):
        if homes.count(core) > chip.slots:
            return "slots", core
    return None


def _fault_of_routes(network, chip, mapping):
    """Return the first fault of the routes, or None."""
    if len(mapping.routes) != network.sources():
        return "routes", network.sources()
    for source, needed in enumerate(_needed_routes(network, mapping.homes)):
        if not _is_route(chip, mapping.routes[source], needed):
            return "routes", source
    return None


def _is_route(chip, route, needed):
    """Return whether a route consists of different cores, the needed ones among them."""
    return (
        all([_is_core(chip, core) for core in route])
        and len(set(route)) == len(route)
        and all([core in route for core in needed])
    )


def _fault_of_rows(network, chip, mapping):
    """Return the first fault of the rows, or None."""
    if len(mapping.rows) != chip.mesh.cores():
        return "rows", chip.mesh.cores()
    for core, needed in enumerate(_needed_rows(network, chip, mapping.homes)):
        if sorted(mapping.rows[core]) != sorted(needed):
            return "rows", core
    return None

"""Placements, the homes and gates of mappings, and how they are improved change by change.

Within this file, the places of a placement are one list: for each source the core at which its packets
start, which is the gate of an input or the home of a neuron. A change is a tuple of pairs: a source and its
new place.
"""

from spikehold.mapping import enough_cycles, mapping_with, simple_mapping
from spikehold.mesh import distance


def mapping_of(network, chip, homes, gates):
    """Return the mapping of a placement."""
    return mapping_with(network, chip, homes, gates)


def cost(network, chip, homes, gates):
    """Return the cost of a placement."""
    return enough_cycles(network, chip, mapping_of(network, chip, homes, gates))


def changes(chip, homes, gates):
    """Return the placements that the changes of a placement lead to, in the order of the changes."""
    places = gates + homes
    return [_placement(_moved(places, change), len(gates)) for change in _changes_in_order(chip, homes, gates)]


def improve(network, chip, homes, gates):
    """Return the placement after the first change that lowers the cost was made, again and again."""
    aims = _aims(network)
    placement = list(homes), list(gates)
    better = _first_better(chip, aims, placement)
    while better is not None:
        placement = better
        better = _first_better(chip, aims, placement)
    return placement


def best_local_mapping(network, chip):
    """Return the mapping of the improved placement of the simple mapping."""
    simple = simple_mapping(network, chip)
    homes, gates = improve(network, chip, simple.homes, simple.gates)
    return mapping_of(network, chip, homes, gates)


def _changes_in_order(chip, homes, gates):
    """Yield the changes of a placement in their order."""
    inputs = len(gates)
    held = [homes.count(core) for core in range(chip.mesh.cores())]
    for n, home in enumerate(homes):
        for core, many in enumerate(held):
            if core != home and many < chip.slots:
                yield ((inputs + n, core),)
    for n, home in enumerate(homes):
        for k in range(n + 1, len(homes)):
            if homes[k] != home:
                yield (inputs + n, homes[k]), (inputs + k, home)
    for i, gate in enumerate(gates):
        for core in range(chip.mesh.cores()):
            if core != gate:
                yield ((i, core),)


def _moved(places, change):
    """Return the places after a change."""
    moved = list(places)
    for source, core in change:
        moved[source] = core
    return moved


def _placement(places, inputs):
    """Return the placement with these places."""
    return places[inputs:], places[:inputs]


def _first_better(chip, aims, placement):
    """Return what the first change that lowers the cost makes of a placement, or None if there is none."""
    homes, gates = placement
    places = gates + homes
    concerned = _concerned(aims)
    shares = [_share(chip.mesh, aims, places, source) for source in range(len(aims))]
    for change in _changes_in_order(chip, homes, gates):
        moved = _moved(places, change)
        # The other sources cost as much as before, so the whole cost need not be summed for each change.
        sources = {other: True for source, _ in change for other in concerned[source]}
        before = sum([shares[source] for source in sources])
        after = sum([_share(chip.mesh, aims, moved, source) for source in sources])
        if after < before:
            return _placement(moved, len(gates))
    return None


def _aims(network):
    """Return for each source its targets, each once, by their numbers as sources."""
    aims = [{} for _ in range(network.sources())]
    for synapse in network.synapses:
        aims[synapse.source][network.inputs + synapse.target] = True
    return [list(targets) for targets in aims]


def _concerned(aims):
    """Return for each source the sources whose share of the cost depends on its place."""
    concerned = [{source: True} for source in range(len(aims))]
    for source, targets in enumerate(aims):
        for target in targets:
            concerned[target][source] = True
    return [list(sources) for sources in concerned]


def _share(mesh, aims, places, source):
    """Return what a source adds to the cost: `distance + 2` for each core that holds a target of it."""
    cores = {places[target]: True for target in aims[source]}
    return sum([distance(mesh, places[source], core) + 2 for core in cores])

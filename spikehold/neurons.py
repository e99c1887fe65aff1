"""Neurons: their constants, and what one of them does in a tick."""


class Neuron:
    """The constants of a neuron. Its state, a potential and a rest, is kept elsewhere."""

    def __init__(self, threshold, *, leak=0, refractory=0, floor=0, subtract=False):
        self.threshold = threshold
        self.leak = leak
        self.refractory = refractory
        self.floor = floor
        self.subtract = subtract

    def __eq__(self, other):
        return (
            isinstance(other, Neuron)
            and self.threshold == other.threshold
            and self.leak == other.leak
            and self.refractory == other.refractory
            and self.floor == other.floor
            and self.subtract == other.subtract
        )


def step(neuron, potential, rest, incoming):
    """Return the new potential, the new rest, and whether the neuron spikes."""
    charged = max(_leaked(neuron, potential) + incoming, neuron.floor)
    if rest > 0:
        return charged, rest - 1, False
    if charged < neuron.threshold:
        return charged, rest, False
    return _left_after_spike(neuron, charged), neuron.refractory, True


def _leaked(neuron, potential):
    """Return the potential after the leak."""
    # A leak of 0 means none; the formula would take the whole potential away.
    if neuron.leak == 0:
        return potential
    return potential - (potential >> neuron.leak)


def _left_after_spike(neuron, potential):
    """Return what a spike leaves of the potential."""
    if neuron.subtract:
        return potential - neuron.threshold
    return 0

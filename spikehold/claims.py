"""Claims about all runs of a network without a learning rule, and the search that decides them."""

from spikehold.networks import after_steps

# The longest delay of a synapse: so many ticks ahead a state tells the incoming sums.
TICKS_AHEAD = 15


def initial_state(network):
    """Return the state of a network before the first tick."""
    zeros = (0,) * len(network.neurons)
    # A longer delay is outside the bounds of a synapse; with it, a state must reach further.
    ahead = max([TICKS_AHEAD] + [synapse.delay for synapse in network.synapses])
    return zeros, zeros, (zeros,) * ahead


def advance(network, state, stimulus):
    """Return the state after a tick, and the list of the neurons that spike in it."""
    effects = _effects(network)
    settled, spikes = _before_stimulus(network, effects, state)
    return _with_sources(effects, settled, stimulus), spikes


def stimulus_of(network, number):
    """Return the list of the inputs of a numbered stimulus."""
    return [i for i in range(network.inputs) if (number >> i) & 1 == 1]


def next_watch(claim, watch, stimulus, spikes):
    """Return the watch of a claim after a tick."""
    if claim[0] != "answer":
        return 0
    _, cause, n, within = claim
    left = watch
    if watch > 0:
        left = 0 if n in spikes else watch - 1
    # What is owed already ends sooner than what this tick adds, so the new debt counts only without it.
    if left == 0 and cause in stimulus:
        return within
    return left


def is_broken(claim, watch, spikes):
    """Return whether a tick with these spikes breaks a claim, by the watch before the tick."""
    if claim[0] == "never":
        return claim[1] in spikes
    if claim[0] == "apart":
        return claim[1] in spikes and claim[2] in spikes
    return watch == 1 and claim[2] not in spikes


def decide(network, claim, most):
    """Return the answer of a search through the pairs of a state and a watch, at most so many of them."""
    effects = _effects(network)
    pairs = [(initial_state(network), 0)]
    # For each pair that was reached, the pair before it and the stimulus that led from that one to it.
    origins = {pairs[0]: None}
    taken = 0
    while taken < len(pairs):
        pair = pairs[taken]
        for stimulus, breaks, follower in _ticks_from(network, claim, effects, pair):
            if breaks:
                return "breaks", _stimuli_to(origins, pair) + [stimulus]
            if follower not in origins:
                if len(pairs) >= most:
                    return "open", most
                origins[follower] = (pair, stimulus)
                pairs.append(follower)
        taken += 1
    return "holds", pairs


def check_answer(network, claim, answer):
    """Return whether an answer shows what it says of a claim."""
    word, shown = answer
    if word == "breaks":
        return _is_breach(network, claim, shown)
    if word == "holds":
        return _is_closed(network, claim, shown)
    return False


def _effects(network):
    """Return for each source what its spike adds: a list of tuples (entry of pending, target, weight)."""
    effects = [[] for _ in range(network.sources())]
    for synapse in network.synapses:
        effects[synapse.source].append((synapse.delay - 1, synapse.target, synapse.weight))
    return effects


def _before_stimulus(network, effects, state):
    """Return the state after a tick without a stimulus, and the list of the neurons that spike in it.

    The stimulus of a tick does not matter to these: its spikes arrive in later ticks.
    """
    potentials, rests, pending = state
    potentials, rests, spikes = after_steps(network, potentials, rests, pending[0])
    zeros = (0,) * len(network.neurons)
    settled = potentials, rests, pending[1:] + (zeros,)
    return _with_sources(effects, settled, [network.inputs + n for n in spikes]), spikes


def _with_sources(effects, state, sources):
    """Return a state after a tick with the spikes of these sources added to what is pending."""
    potentials, rests, pending = state
    changed = {}
    for source in sources:
        for entry, target, weight in effects[source]:
            if entry not in changed:
                changed[entry] = list(pending[entry])
            changed[entry][target] += weight
    added = [tuple(changed[entry]) if entry in changed else sums for entry, sums in enumerate(pending)]
    return potentials, rests, tuple(added)


def _ticks_from(network, claim, effects, pair):
    """Yield for each stimulus the stimulus, whether its tick breaks the claim, and the pair that it leads to."""
    state, watch = pair
    settled, spikes = _before_stimulus(network, effects, state)
    breaks = is_broken(claim, watch, spikes)
    for number in range(1 << network.inputs):
        stimulus = stimulus_of(network, number)
        follower = _with_sources(effects, settled, stimulus), next_watch(claim, watch, stimulus, spikes)
        yield stimulus, breaks, follower


def _stimuli_to(origins, pair):
    """Return the stimuli of the ticks that led to a pair."""
    stimuli = []
    origin = origins[pair]
    while origin is not None:
        before, stimulus = origin
        stimuli.append(stimulus)
        origin = origins[before]
    return stimuli[::-1]


def _is_breach(network, claim, stimuli):
    """Return whether the last tick of some stimuli breaks a claim, and no tick before it."""
    state, watch = initial_state(network), 0
    for tick, stimulus in enumerate(stimuli):
        state, spikes = advance(network, state, stimulus)
        if is_broken(claim, watch, spikes):
            return tick == len(stimuli) - 1
        watch = next_watch(claim, watch, stimulus, spikes)
    return False


def _is_closed(network, claim, pairs):
    """Return whether no tick leads out of some pairs or breaks a claim, and the initial pair is among them."""
    initial = initial_state(network)
    known = {pair: True for pair in pairs}
    if (initial, 0) not in known:
        return False
    effects = _effects(network)
    for pair in known:
        # Whoever made the list may have put states of another network into it.
        if _shape(pair[0]) != _shape(initial):
            return False
        for _, breaks, follower in _ticks_from(network, claim, effects, pair):
            if breaks or follower not in known:
                return False
    return True


def _shape(state):
    """Return the numbers of entries in the parts of a state."""
    potentials, rests, pending = state
    return len(potentials), len(rests), [len(sums) for sums in pending]

"""What the maps in use say of their sequences, with no key pressed."""

from keymaps.maps import binding_map, bound_at_once, counting_maps, goes_on, maps_in_use

IS_BOUND = 1
GOES_ON = 2


def sequence_state(counting, sequence):
    state = 0
    if binding_map(counting, sequence) is not None:
        state += IS_BOUND
    if goes_on(counting, sequence):
        state += GOES_ON
    return state


def next_keys(counting, beginning):
    """The keys, rising, that bound sequences have right behind this beginning."""
    length = len(beginning)
    found = {}
    for key_map in counting:
        for sequence in key_map.bindings:
            if len(sequence) > length and sequence[:length] == beginning:
                found[sequence[length]] = True
    return sorted(found)


def cut_short(counting, sequence):
    """Whether a shorter beginning is done at once, so that the rest never comes behind it."""
    for length in range(1, len(sequence)):
        if bound_at_once(counting, sequence[:length]):
            return True
    return False


def bound_by(counting, key_map, sequence):
    binder = binding_map(counting, sequence)
    return binder is not None and binder.number == key_map.number


def hidden_sequences(maps, in_use):
    """Of each binding that is hidden: its map's number, and its sequence."""
    counting = counting_maps(maps, in_use)
    found = []
    for key_map in maps_in_use(maps, in_use):
        for sequence in key_map.bindings:
            if not bound_by(counting, key_map, sequence) or cut_short(counting, sequence):
                found.append((key_map.number, sequence))
    return found


def bound_sequences(counting):
    """Each bound sequence once, where the map stands that it is bound by."""
    sequences = []
    for key_map in counting:
        for sequence in key_map.bindings:
            if bound_by(counting, key_map, sequence):
                sequences.append(sequence)
    return sequences

"""The maps, and what a sequence is bound to by those that count."""


class KeyMap:
    def __init__(self, shut):
        self.shut = shut
        self.bindings = {}


def counting_maps(maps, in_use):
    counting = []
    for number in in_use:
        counting.append(maps[number])
        if maps[number].shut == 1:
            break
    return counting


def bound(counting, sequence):
    for key_map in counting:
        binding = key_map.bindings.get(sequence)
        if binding is not None:
            return binding
    return None


def goes_on(counting, sequence):
    # A sequence that a map has is bound even where a higher map hides it, so
    # every map that counts has a say here.
    length = len(sequence)
    for key_map in counting:
        for longer in key_map.bindings:
            if len(longer) > length and longer[:length] == sequence:
                return True
    return False


def longest_bound(counting, keys):
    for length in range(len(keys), 0, -1):
        binding = bound(counting, tuple(keys[:length]))
        if binding is not None:
            return binding
    return None

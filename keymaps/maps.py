"""The maps, and what a sequence is bound to by those that count."""


class KeyMap:
    def __init__(self, number, shut):
        self.number = number
        self.shut = shut
        self.bindings = {}

    def add_binding(self, binding):
        # A sequence that is bound again stands behind those bound before, and
        # a dict keeps a key's old place unless the key is taken out first.
        self.bindings.pop(binding.sequence, None)
        self.bindings[binding.sequence] = binding


def maps_in_use(maps, in_use):
    """Each map in use once, at the place where it is first."""
    numbers = []
    for number in in_use:
        if number not in numbers:
            numbers.append(number)
    return [maps[number] for number in numbers]


def counting_maps(maps, in_use):
    # A map below itself binds nothing that it doesn't bind above, so each
    # stands here once.
    counting = []
    for key_map in maps_in_use(maps, in_use):
        counting.append(key_map)
        if key_map.shut == 1:
            break
    return counting


def binding_map(counting, sequence):
    for key_map in counting:
        if sequence in key_map.bindings:
            return key_map
    return None


def bound(counting, sequence):
    key_map = binding_map(counting, sequence)
    return None if key_map is None else key_map.bindings[sequence]


def bound_at_once(counting, sequence):
    binding = bound(counting, sequence)
    return binding is not None and binding.at_once == 1


def goes_on(counting, sequence):
    # A sequence that a map has is bound even where a higher map hides it, so
    # every map that counts has a say here.
    length = len(sequence)
    for key_map in counting:
        for longer in key_map.bindings:
            if len(longer) > length and longer[:length] == sequence:
                return True
    return False


def longest_bound(counting, keys):
    for length in range(len(keys), 0, -1):
        binding = bound(counting, tuple(keys[:length]))
        if binding is not None:
            return binding
    return None

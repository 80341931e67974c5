"""One keyboard, and what each call on it does and answers."""

from keymaps.bindings import LONGEST_SEQUENCE, MAP_COUNT, binding_fits, keys_fit, sequence_fits
from keymaps.keystream import MOST_IN_USE, KeyStream, makes_ring, try_out
from keymaps.maps import KeyMap, binding_map
from keymaps.overview import bound_sequences, hidden_sequences, next_keys, sequence_state

NOT_AS_TOLD = -1
NO_SUCH_MAP = -2
MAP_IS_FULL = -5
NO_SUCH_SEQUENCE = -6

MOST_BINDINGS = 20
MOST_TICKS = 1000
MOST_KEYS_PRESSED = 20
TICKS_AT_FIRST = 10


class Board:
    def __init__(self):
        self.maps = [KeyMap(number, 0) for number in range(MAP_COUNT)]
        self.stream = KeyStream(self.maps, [0], [], [])
        self.ticks_to_wait = TICKS_AT_FIRST

    def renew_map(self, number, shut):
        if number >= MAP_COUNT:
            return [NO_SUCH_MAP]
        self.maps[number] = KeyMap(number, shut)
        return [number]

    def bind(self, number, binding):
        if number >= MAP_COUNT:
            return [NO_SUCH_MAP]
        if not binding_fits(binding):
            return [NOT_AS_TOLD]
        key_map = self.maps[number]
        if binding.sequence not in key_map.bindings and len(key_map.bindings) >= MOST_BINDINGS:
            return [MAP_IS_FULL]
        key_map.add_binding(binding)
        return [len(key_map.bindings)]

    def unbind(self, number, sequence):
        if number >= MAP_COUNT:
            return [NO_SUCH_MAP]
        bindings = self.maps[number].bindings
        if tuple(sequence) not in bindings:
            return [NO_SUCH_SEQUENCE]
        bindings.pop(tuple(sequence))
        return [len(bindings)]

    def use(self, numbers):
        if not 1 <= len(numbers) <= MOST_IN_USE or max(numbers) >= MAP_COUNT:
            return [NOT_AS_TOLD]
        self.stream.put_in_use(numbers)
        return [len(numbers)]

    def wait(self, ticks):
        if not 1 <= ticks <= MOST_TICKS:
            return [NOT_AS_TOLD]
        self.ticks_to_wait = ticks
        return [ticks]

    def press(self, ticks, keys):
        if not keys_fit(keys, 1, MOST_KEYS_PRESSED):
            return [NOT_AS_TOLD]
        if ticks >= self.ticks_to_wait:
            self.stream.wait_long_enough()
        for key in keys:
            self.stream.press_key(key)
        return event_answer(self.stream.take_events())

    def flush(self):
        self.stream.wait_long_enough()
        return event_answer(self.stream.take_events())

    def tell_open(self):
        stream = self.stream
        return counted(stream.open_keys) + counted(stream.digits) + counted(stream.in_use)

    def lookup(self, sequence):
        if not sequence_fits(sequence):
            return [NOT_AS_TOLD]
        counting = self.stream.counting()
        key_map = binding_map(counting, tuple(sequence))
        return [sequence_state(counting, tuple(sequence)), 0 if key_map is None else key_map.number + 1]

    def hints(self, keys):
        if not keys_fit(keys, 0, LONGEST_SEQUENCE - 1):
            return [NOT_AS_TOLD]
        counting = self.stream.counting()
        found = next_keys(counting, tuple(keys))
        answer = [len(found)]
        for key in found:
            answer.extend([key, sequence_state(counting, tuple(keys + [key]))])
        return answer

    def hidden(self):
        found = hidden_sequences(self.maps, self.stream.in_use)
        answer = [len(found)]
        for number, sequence in found:
            answer.append(number)
            answer.extend(counted(sequence))
        return answer

    def would(self, keys):
        if not keys_fit(keys, 0, MOST_KEYS_PRESSED):
            return [NOT_AS_TOLD]
        stream = self.stream
        return event_answer(try_out(KeyStream(self.maps, stream.in_use, stream.open_keys, stream.digits), keys))

    def rings(self):
        found = []
        for sequence in bound_sequences(self.stream.counting()):
            if makes_ring(try_out(KeyStream(self.maps, self.stream.in_use, [], []), sequence)):
                found.append(sequence)
        answer = [len(found)]
        for sequence in found:
            answer.extend(counted(sequence))
        return answer


def counted(numbers):
    return [len(numbers)] + list(numbers)


def event_answer(events):
    answer = [len(events)]
    for event in events:
        answer.extend(event)
    return answer

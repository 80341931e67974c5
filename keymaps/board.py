"""One keyboard, and what each call on it does and answers."""

from keymaps.bindings import MAP_COUNT, binding_fits, keys_fit
from keymaps.keystream import MOST_IN_USE, KeyStream
from keymaps.maps import KeyMap

NOT_AS_TOLD = -1
NO_SUCH_MAP = -2
MAP_IS_FULL = -5
NO_SUCH_SEQUENCE = -6

MOST_BINDINGS = 20
MOST_TICKS = 1000
MOST_KEYS_PRESSED = 20
TICKS_AT_FIRST = 10


class Board:
    def __init__(self):
        self.maps = [KeyMap(0) for number in range(MAP_COUNT)]
        self.stream = KeyStream(self.maps)
        self.ticks_to_wait = TICKS_AT_FIRST

    def renew_map(self, number, shut):
        if number >= MAP_COUNT:
            return [NO_SUCH_MAP]
        self.maps[number] = KeyMap(shut)
        return [number]

    def bind(self, number, binding):
        if number >= MAP_COUNT:
            return [NO_SUCH_MAP]
        if not binding_fits(binding):
            return [NOT_AS_TOLD]
        bindings = self.maps[number].bindings
        if binding.sequence not in bindings and len(bindings) >= MOST_BINDINGS:
            return [MAP_IS_FULL]
        bindings[binding.sequence] = binding
        return [len(bindings)]

    def unbind(self, number, sequence):
        if number >= MAP_COUNT:
            return [NO_SUCH_MAP]
        bindings = self.maps[number].bindings
        if tuple(sequence) not in bindings:
            return [NO_SUCH_SEQUENCE]
        bindings.pop(tuple(sequence))
        return [len(bindings)]

    def use(self, numbers):
        if not 1 <= len(numbers) <= MOST_IN_USE or max(numbers) >= MAP_COUNT:
            return [NOT_AS_TOLD]
        self.stream.put_in_use(numbers)
        return [len(numbers)]

    def wait(self, ticks):
        if not 1 <= ticks <= MOST_TICKS:
            return [NOT_AS_TOLD]
        self.ticks_to_wait = ticks
        return [ticks]

    def press(self, ticks, keys):
        if not keys_fit(keys, 1, MOST_KEYS_PRESSED):
            return [NOT_AS_TOLD]
        if ticks >= self.ticks_to_wait:
            self.stream.wait_long_enough()
        for key in keys:
            self.stream.press_key(key)
        return event_answer(self.stream.take_events())

    def flush(self):
        self.stream.wait_long_enough()
        return event_answer(self.stream.take_events())


def event_answer(events):
    answer = [len(events)]
    for event in events:
        answer.extend(event)
    return answer

"""Keys gone through one by one, and the events that come of them."""

from keymaps.bindings import COMMAND, EXCHANGE_MAP, KEYS_AS_THEY_ARE, KEYS_INSTEAD, NOTHING, PUT_MAP, TAKE_MAP
from keymaps.maps import bound_at_once, counting_maps, goes_on, longest_bound

EVENT_KEY = 0
EVENT_COMMAND = 1
EVENT_RING = 2
EVENT_MAP = 3
EVENT_NOTHING = 4

FIRST_DIGIT = 48
LAST_DIGIT = 57
MOST_DIGITS = 4
MOST_IN_USE = 6
MOST_TIMES_PUT = 50


class KeyStream:
    def __init__(self, maps, in_use, open_keys, digits):
        # The maps are only read here. The rest is copied, so that a stream
        # made from another one's values can be tried out and thrown away.
        self.maps = maps
        self.in_use = list(in_use)
        self.open_keys = list(open_keys)
        self.digits = list(digits)
        self.to_come = []
        self.times_put = 0
        self.events = []

    def put_in_use(self, numbers):
        self.in_use = list(numbers)

    def take_events(self):
        events = self.events
        self.events = []
        return events

    def press_key(self, key):
        self.times_put = 0
        self.to_come.append(key)
        self.go_through()

    def wait_long_enough(self):
        self.times_put = 0
        while self.open_keys:
            self.settle()
            self.go_through()

    def go_through(self):
        while self.to_come:
            self.open_keys.append(self.to_come.pop(0))
            if not self.more_may_come():
                self.settle()

    def counting(self):
        return counting_maps(self.maps, self.in_use)

    def more_may_come(self):
        counting = self.counting()
        sequence = tuple(self.open_keys)
        return goes_on(counting, sequence) and not bound_at_once(counting, sequence)

    def settle(self):
        keys = self.open_keys
        self.open_keys = []
        binding = longest_bound(self.counting(), keys)
        used = 1 if binding is None else len(binding.sequence)
        # What was not used comes again before anything is done: keys put for
        # keys stand in the place of the used ones, and a ring drops the rest.
        self.to_come = keys[used:] + self.to_come
        if binding is None:
            self.take_as_it_is(keys[0])
        else:
            self.carry_out(binding, used)

    def take_as_it_is(self, key):
        if self.is_count_digit(key):
            self.digits.append(key)
        else:
            self.tell(EVENT_KEY, key, 1)

    def is_count_digit(self, key):
        if len(self.digits) >= MOST_DIGITS:
            return False
        if key == FIRST_DIGIT:
            return len(self.digits) > 0
        return FIRST_DIGIT < key <= LAST_DIGIT

    def carry_out(self, binding, used):
        purpose = binding.purpose
        if purpose == COMMAND:
            self.tell(EVENT_COMMAND, binding.details[0], used)
        elif purpose == KEYS_INSTEAD:
            self.put_keys(binding.details, used)
        elif purpose == KEYS_AS_THEY_ARE:
            self.tell_keys(binding.details, used)
        elif purpose == NOTHING:
            self.tell(EVENT_NOTHING, 0, used)
        else:
            self.change_maps(binding)
            self.tell(EVENT_MAP, self.in_use[0], used)

    def put_keys(self, keys, used):
        if self.times_put == MOST_TIMES_PUT:
            self.to_come = []
            self.tell(EVENT_RING, 0, used)
        else:
            self.times_put += 1
            self.to_come = keys + self.to_come

    def tell_keys(self, keys, used):
        if not keys:
            self.tell(EVENT_NOTHING, 0, used)
        for place, key in enumerate(keys):
            # The digits go with the first, so the others tell no count.
            self.tell(EVENT_KEY, key, used if place == 0 else 0)

    def change_maps(self, binding):
        purpose = binding.purpose
        if purpose == PUT_MAP and len(self.in_use) < MOST_IN_USE:
            self.in_use.insert(0, binding.details[0])
        elif purpose == TAKE_MAP and len(self.in_use) > 1:
            self.in_use.pop(0)
        elif purpose == EXCHANGE_MAP:
            self.in_use[0] = binding.details[0]

    def tell(self, kind, number, used):
        count = 0
        for digit in self.digits:
            count = count * 10 + digit - FIRST_DIGIT
        self.events.append((kind, number, count, used + len(self.digits)))
        self.digits = []


def try_out(stream, keys):
    """The events of these keys and of the wait behind them, on a stream that is not needed any more."""
    for key in keys:
        stream.press_key(key)
    stream.wait_long_enough()
    return stream.take_events()


def makes_ring(events):
    return EVENT_RING in [event[0] for event in events]

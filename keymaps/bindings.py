"""A binding: its sequence of keys, and what that sequence is for."""

COMMAND = 0
KEYS_INSTEAD = 1
KEYS_AS_THEY_ARE = 2
PUT_MAP = 3
TAKE_MAP = 4
EXCHANGE_MAP = 5
NOTHING = 6

MAP_COUNT = 8
HIGHEST_KEY = 255
HIGHEST_COMMAND = 999
LONGEST_SEQUENCE = 4
MOST_KEYS_PUT = 6


class Binding:
    def __init__(self, at_once, purpose, details, sequence):
        self.at_once = at_once
        self.purpose = purpose
        self.details = details
        self.sequence = sequence


def read_binding(at_once, row):
    purpose = row[0]
    start = 1
    how_many = 0
    if purpose in (KEYS_INSTEAD, KEYS_AS_THEY_ARE):
        start = 2
        how_many = row[1]
    elif purpose in (COMMAND, PUT_MAP, EXCHANGE_MAP):
        how_many = 1
    end = start + how_many
    return Binding(at_once, purpose, row[start:end], tuple(row[end:]))


def keys_fit(keys, fewest, most):
    return fewest <= len(keys) <= most and max(keys, default=0) <= HIGHEST_KEY


def sequence_fits(sequence):
    return keys_fit(sequence, 1, LONGEST_SEQUENCE)


def details_fit(purpose, details):
    if purpose == COMMAND:
        return details[0] <= HIGHEST_COMMAND
    if purpose == KEYS_INSTEAD:
        return keys_fit(details, 1, MOST_KEYS_PUT)
    if purpose == KEYS_AS_THEY_ARE:
        return keys_fit(details, 0, MOST_KEYS_PUT)
    if purpose in (PUT_MAP, EXCHANGE_MAP):
        return details[0] < MAP_COUNT
    return True


def binding_fits(binding):
    return sequence_fits(binding.sequence) and details_fit(binding.purpose, binding.details)

"""Calls written as the interface asks, and its answers split call by call."""

from keymaps.keyboard import answers

HUGE = 4294967295


def command(number):
    return [0, number]


def instead(*keys):
    return [1, len(keys), *keys]


def as_they_are(*keys):
    return [2, len(keys), *keys]


def put(number):
    return [3, number]


TAKE = [4]


def exchange(number):
    return [5, number]


NOTHING = [6]


def key_map(number, shut=0):
    return [0, number, shut]


def bind(number, sequence, purpose, at_once=0):
    row = [*purpose, *sequence]
    return [1, number, at_once, len(row), *row]


def unbind(number, sequence):
    return [2, number, len(sequence), *sequence]


def use(*numbers):
    return [3, len(numbers), *numbers]


def wait(ticks):
    return [4, ticks]


def press(*keys, ticks=0):
    return [5, ticks, len(keys), *keys]


FLUSH = [6]
OPEN = [7]


def lookup(*sequence):
    return [8, len(sequence), *sequence]


def hints(*keys):
    return [9, len(keys), *keys]


HIDDEN = [10]


def would(*keys):
    return [11, len(keys), *keys]


RINGS = [12]


def joined(calls):
    return [number for call in calls for number in call]


def split(told):
    parts = []
    place = 0
    while place < len(told):
        end = place + 1 + told[place]
        if end > len(told):
            raise ValueError("an answer is shorter than its count")
        parts.append(told[place + 1:end])
        place = end
    return parts


def run(*calls):
    return split(answers(joined(calls)))


def last(*calls):
    return run(*calls)[-1]


def events(*calls):
    """The events that the last call answers, as tuples of four."""
    answer = last(*calls)
    body = answer[1:]
    if answer[0] * 4 != len(body):
        raise ValueError("the number of events does not fit the answer")
    return [tuple(body[place:place + 4]) for place in range(0, len(body), 4)]

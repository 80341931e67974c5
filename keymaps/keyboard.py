"""The interface: a list of calls on one keyboard, and their answers."""

from keymaps.bindings import read_binding
from keymaps.board import Board


class Reader:
    def __init__(self, numbers):
        self.numbers = numbers
        self.place = 0

    def has_more(self):
        return self.place < len(self.numbers)

    def take_number(self):
        number = self.numbers[self.place]
        self.place += 1
        return number

    def take_row(self):
        start = self.place + 1
        self.place = start + self.numbers[self.place]
        return self.numbers[start:self.place]


def call_map(board, reader):
    number = reader.take_number()
    shut = reader.take_number()
    return board.renew_map(number, shut)


def call_bind(board, reader):
    number = reader.take_number()
    at_once = reader.take_number()
    return board.bind(number, read_binding(at_once, reader.take_row()))


def call_unbind(board, reader):
    number = reader.take_number()
    return board.unbind(number, reader.take_row())


def call_use(board, reader):
    return board.use(reader.take_row())


def call_wait(board, reader):
    return board.wait(reader.take_number())


def call_press(board, reader):
    ticks = reader.take_number()
    return board.press(ticks, reader.take_row())


def call_flush(board, reader):
    return board.flush()


def call_open(board, reader):
    return board.tell_open()


def call_lookup(board, reader):
    return board.lookup(reader.take_row())


def call_hints(board, reader):
    return board.hints(reader.take_row())


def call_hidden(board, reader):
    return board.hidden()


def call_would(board, reader):
    return board.would(reader.take_row())


def call_rings(board, reader):
    return board.rings()


# A call's number is its place here.
CALLS = (call_map, call_bind, call_unbind, call_use, call_wait, call_press, call_flush, call_open, call_lookup,
         call_hints, call_hidden, call_would, call_rings)


def answers(calls):
    reader = Reader(calls)
    board = Board()
    told = []
    while reader.has_more():
        call = CALLS[reader.take_number()]
        answer = call(board, reader)
        told.append(len(answer))
        told.extend(answer)
    return told

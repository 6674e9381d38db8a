"""The desk: a list of calls on one new machine goes in, the list of their answers comes back."""

from drumback.calls import new, peek, place, poke, reach, rewind, run, tell_placing, tell_text, told, why
from drumback.machine import Machine


class Reader:
    """Takes a call's numbers and rows off the list in turn, and leaves the list as it is."""

    def __init__(self, numbers):
        self.numbers = numbers
        self.at = 0

    def at_end(self):
        return self.at >= len(self.numbers)

    def take(self):
        self.at += 1
        return self.numbers[self.at - 1]

    def take_row(self):
        size = self.take()
        first = self.at
        self.at += size
        return self.numbers[first:self.at]


def answer_new(machine, reader):
    return new(machine, reader.take())


def answer_poke(machine, reader):
    address = reader.take()
    word = reader.take()
    return poke(machine, address, word)


def answer_peek(machine, reader):
    return peek(machine, reader.take())


def answer_place(machine, reader):
    text = reader.take_row()
    placing = reader.take_row()
    return place(machine, text, placing)


def answer_run(machine, reader):
    most = reader.take()
    cards = reader.take_row()
    return run(machine, most, cards)


def answer_told(machine, reader):
    return told(machine)


def answer_rewind(machine, reader):
    return rewind(machine)


def answer_reach(machine, reader):
    return reach(machine)


def answer_why(machine, reader):
    return why(machine)


def answer_text(machine, reader):
    return tell_text(machine)


def answer_placing(machine, reader):
    return tell_placing(machine)


CALLS = {
    1: answer_new,
    2: answer_poke,
    3: answer_peek,
    4: answer_place,
    5: answer_run,
    6: answer_told,
    7: answer_rewind,
    8: answer_reach,
    9: answer_why,
    10: answer_text,
    11: answer_placing,
}


def answers(calls):
    machine = Machine(0)
    reader = Reader(calls)
    given = []
    while not reader.at_end():
        answer_call = CALLS[reader.take()]
        answer = answer_call(machine, reader)
        given.append(len(answer))
        given.extend(answer)
    return given

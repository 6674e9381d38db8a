"""Calls written as lists, and their answers taken apart again: for the tests alone."""

from drumback.desk import answers

WORD_MOST = 9999999999
LONG_MOST = 10 ** 20 - 1


def new(start):
    return [1, start]


def poke(a, v):
    return [2, a, v]


def peek(a):
    return [3, a]


def place(text, placing):
    codes = list(text.encode("latin-1")) if isinstance(text, str) else list(text)
    return [4, len(codes)] + codes + [len(placing)] + list(placing)


def run(orders, cards=()):
    return [5, orders, len(cards)] + list(cards)


def told():
    return [6]


def ask(*calls):
    """The answer of each call, as a list of lists."""
    flat = [number for call in calls for number in call]
    given = answers(flat)
    taken = []
    at = 0
    while at < len(given):
        size = given[at]
        taken.append(given[at + 1:at + 1 + size])
        at += 1 + size
    assert at == len(given) and len(taken) == len(calls), given
    return taken


def last(*calls):
    return ask(*calls)[-1]


def order(code, d, n):
    return code * 10 ** 8 + d * 10 ** 4 + n


def drum_but_zeros(*calls):
    """What lies on the drum behind the calls: of each address whose word isn't 0 the word."""
    found = {}
    for first in range(0, 2000, 200):
        addresses = range(first, first + 200)
        for a, answer in zip(addresses, ask(*calls, *[peek(a) for a in addresses])[len(calls):]):
            if answer != [0, 0]:
                found[a] = answer[1]
    return found


def prepared(a, d):
    """Three orders that load A and D: behind them N is 15 and T is 15, so that the order at 15 is taken apart at 18."""
    sign = -1 if a < 0 else 1
    return [
        new(0),
        poke(0, order(10, 3, 5)), poke(3, sign * (abs(a) % 10 ** 10)),
        poke(5, order(16, 8, 11)), poke(8, sign * (abs(a) // 10 ** 10)),
        poke(11, order(18, 14, 15)), poke(14, d),
        run(3),
    ]

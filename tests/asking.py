"""Calls written as lists, and their answers taken apart again: for the tests alone."""

from drumback.desk import answers

WORD_MOST = 9999999999
LONG_MOST = 10 ** 20 - 1


def new(start):
    return [1, start]


def poke(a, v):
    return [2, a, v]


def peek(a):
    return [3, a]


def place(lines, addresses):
    codes = list(lines.encode("latin-1")) if isinstance(lines, str) else list(lines)
    return [4, len(codes)] + codes + [len(addresses)] + list(addresses)


def run(orders, cards=()):
    return [5, orders, len(cards)] + list(cards)


def told():
    return [6]


def rewind():
    return [7]


def reach():
    return [8]


def why():
    return [9]


def text():
    return [10]


def placing():
    return [11]


def ask(*calls):
    """The answer of each call, as a list of lists."""
    flat = [number for call in calls for number in call]
    given = answers(flat)
    taken = []
    at = 0
    while at < len(given):
        size = given[at]
        taken.append(given[at + 1:at + 1 + size])
        at += 1 + size
    assert at == len(given) and len(taken) == len(calls), given
    return taken


def last(*calls):
    return ask(*calls)[-1]


def order(code, d, n):
    return code * 10 ** 8 + d * 10 ** 4 + n


def drum_but_zeros(*calls):
    """What lies on the drum behind the calls: of each address whose word isn't 0 the word."""
    found = {}
    for first in range(0, 2000, 200):
        addresses = range(first, first + 200)
        for a, answer in zip(addresses, ask(*calls, *[peek(a) for a in addresses])[len(calls):]):
            if answer != [0, 0]:
                found[a] = answer[1]
    return found


def image(n, words):
    """The calls that make a new machine whose next order is at n, with these words on its drum."""
    return [new(n)] + [poke(a, v) for a, v in words.items()]


def filled(words):
    """The 293 calls that write 2000 words on the drum; the next order is at 1960 then.

    Cards bring all but the last band, read by orders in that band, which is written over last.
    """
    calls = [new(1960)]
    for first in range(0, 1960, 320):
        starts = range(first, min(first + 320, 1960), 8)
        for k, start in enumerate(starts):
            calls.append(poke(1960 + k, order(70, start, 1960 + (k + 1) % len(starts))))
        calls.append(run(len(starts), words[first:first + 8 * len(starts)]))
    return calls + [poke(a, words[a]) for a in range(1960, 2000)]


def reached(*calls):
    """What reach answers behind the calls: of each address its mark."""
    answer = last(*calls, reach())
    assert answer[0] == 0 and answer[1::2] == sorted(set(answer[1::2])), answer
    return dict(zip(answer[1::2], answer[2::2]))


def listed(*calls):
    """The text and the placing behind the calls."""
    lines, addresses = ask(*calls, text(), placing())[-2:]
    assert lines[0] == 0 and addresses[0] == 0, (lines, addresses)
    return bytes(lines[1:]).decode("ascii"), addresses[1:]


def everything(*calls):
    """All that can be asked of the machine behind the calls: what is told, and what lies on the drum."""
    return last(*calls, told()), drum_but_zeros(*calls)


def prepared(a, d):
    """Three orders that load A and D: behind them N is 15 and T is 15, so that the order at 15 is taken apart at 18."""
    sign = -1 if a < 0 else 1
    return [
        new(0),
        poke(0, order(10, 3, 5)), poke(3, sign * (abs(a) % 10 ** 10)),
        poke(5, order(16, 8, 11)), poke(8, sign * (abs(a) // 10 ** 10)),
        poke(11, order(18, 14, 15)), poke(14, d),
        run(3),
    ]

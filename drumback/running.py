"""The machine's run, order by order."""

from drumback.deeds import DEEDS
from drumback.orders import HLT, RDC, code_of, data_of, fault_of, following_of, loads_first, waits_for_data
from drumback.words import BAND_SIZE

TICK_END = 18446744073709551616


def ticks_until(address, tick):
    """How long it is from the tick till the address's place comes by."""
    return (address - tick) % BAND_SIZE


def stopping_state(word, deck):
    """The state in which the word stops the machine, 0 where it doesn't stop it."""
    fault = fault_of(word)
    if fault != 0:
        return fault
    if code_of(word) == HLT:
        return 1
    if code_of(word) == RDC and not deck.has_card():
        return 6
    return 0


def carry_out(machine, word, tick, deck):
    """Do an order that doesn't stop the machine and is taken apart at this tick."""
    code = code_of(word)
    data = data_of(word)
    if waits_for_data(code):
        tick += ticks_until(data, tick) + 1
    if loads_first(code):
        machine.d = machine.drum[data]
    machine.n = following_of(word)
    deed = DEEDS[code]
    behind = deed(machine, data, deck)
    machine.t = (tick + behind) % TICK_END


def do_next_order(machine, deck):
    word = machine.drum[machine.n]
    tick = machine.t + ticks_until(machine.n, machine.t) + 3
    state = stopping_state(word, deck)
    if state == 0:
        carry_out(machine, word, tick, deck)
    else:
        machine.state = state
        machine.t = tick % TICK_END


def run_orders(machine, most, deck):
    """Run on till the machine is stopped or so many orders were begun; answer how many were."""
    begun = 0
    while begun < most and machine.state == 0:
        do_next_order(machine, deck)
        begun += 1
    return begun

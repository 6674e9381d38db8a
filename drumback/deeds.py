"""What each order does. A deed is told the machine, the data address and the deck; it answers the ticks behind.

Before a deed D is loaded, where the order loads it, and N is the following order's address.
"""

from drumback.orders import CARD_SIZE
from drumback.words import (
    BAND_SIZE, LONG_END, WORD_END, addresses_around, band_from, digit_sum, lower_word, power_of_ten,
    quotient_toward_zero, upper_word, with_sign_of,
)


def do_nothing(machine, data, deck):
    return 0


def load(machine, data, deck):
    machine.a = machine.d
    return 1


def load_negated(machine, data, deck):
    machine.a = -machine.d
    return 1


def add_word(machine, data, deck):
    machine.keep(machine.a + machine.d)
    return 2


def subtract_word(machine, data, deck):
    machine.keep(machine.a - machine.d)
    return 2


def add_size(machine, data, deck):
    machine.keep(machine.a + abs(machine.d))
    return 2


def subtract_size(machine, data, deck):
    machine.keep(machine.a - abs(machine.d))
    return 2


def add_upper(machine, data, deck):
    machine.keep(machine.a + machine.d * WORD_END)
    return 2


def subtract_upper(machine, data, deck):
    machine.keep(machine.a - machine.d * WORD_END)
    return 2


def multiply(machine, data, deck):
    machine.a = lower_word(machine.a) * machine.d
    return 4 + 2 * digit_sum(machine.d)


def divide(machine, data, deck):
    # With D 0 the bound is 0 too, so a division by 0 is among those that don't fit.
    if abs(machine.a) >= abs(machine.d) * WORD_END:
        machine.over = 1
        return 6
    quotient = quotient_toward_zero(machine.a, machine.d)
    machine.d = machine.a - quotient * machine.d
    machine.a = quotient
    return 6 + 2 * digit_sum(quotient)


def store_lower(machine, data, deck):
    machine.drum[data] = lower_word(machine.a)
    return 0


def store_upper(machine, data, deck):
    machine.drum[data] = upper_word(machine.a)
    return 0


def store_d(machine, data, deck):
    machine.drum[data] = machine.d
    return 0


def shift_left(machine, data, deck):
    machine.keep(machine.a * power_of_ten(data))
    return 2 + data


def shift_right(machine, data, deck):
    machine.a = quotient_toward_zero(machine.a, power_of_ten(data))
    return 2 + data


def shift_right_rounded(machine, data, deck):
    power = power_of_ten(data)
    # Half the power is added to the size, so that halves go away from 0 on both sides.
    size = (abs(machine.a) + power // 2) // power
    machine.a = with_sign_of(machine.a, size)
    return 2 + data


def shift_and_count(machine, data, deck):
    times = 20
    if machine.a != 0:
        times = 0
        while abs(machine.a) * 10 < LONG_END:
            machine.a = machine.a * 10
            times += 1
    machine.d = times
    return 2 + times


def jump_if_below(machine, data, deck):
    if machine.a < 0:
        machine.n = data
    return 1


def jump_if_not_zero(machine, data, deck):
    if machine.a != 0:
        machine.n = data
    return 1


def jump_if_over(machine, data, deck):
    if machine.over == 1:
        machine.over = 0
        machine.n = data
    return 1


def look_up(machine, data, deck):
    for before, word in enumerate(band_from(machine.drum, data)):
        if word >= machine.d:
            machine.a = before
            return before + 1
    machine.over = 1
    return BAND_SIZE


def read_card(machine, data, deck):
    for address, word in zip(addresses_around(data, CARD_SIZE), deck.take_card()):
        machine.drum[address] = word
    return 60


def punch_card(machine, data, deck):
    for address in addresses_around(data, CARD_SIZE):
        deck.punched.append(machine.drum[address])
    return 60


# HLT is missing: it stops the machine before there is anything to do.
DEEDS = {
    1: do_nothing,
    10: load,
    11: load_negated,
    12: add_word,
    13: subtract_word,
    14: add_size,
    15: subtract_size,
    16: add_upper,
    17: subtract_upper,
    18: do_nothing,
    20: multiply,
    21: divide,
    30: store_lower,
    31: store_upper,
    32: store_d,
    40: shift_left,
    41: shift_right,
    42: shift_right_rounded,
    43: shift_and_count,
    50: jump_if_below,
    51: jump_if_not_zero,
    52: jump_if_over,
    60: look_up,
    70: read_card,
    71: punch_card,
}

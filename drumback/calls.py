"""The calls on a machine. Each answers a list: a refusal's number alone, or 0 and what else is told."""

from drumback.lines import rows_of_text
from drumback.listing import hindrance, listed_placing, listed_text
from drumback.machine import Deck
from drumback.orders import CARD_SIZE
from drumback.placed import fits, lay_program
from drumback.program import first_fault
from drumback.reached import Reached, marked_addresses
from drumback.running import run_orders
from drumback.words import is_address, is_word

OUT_OF_RANGE = -1
NO_PROGRAM = -6
DOES_NOT_FIT = -9
NOT_TO_BE_LISTED = -9

MOST_BYTES = 65536
MOST_ORDERS = 10000
MOST_CARD_WORDS = 512


def new(machine, start):
    if not is_address(start):
        return [OUT_OF_RANGE]
    machine.renew(start)
    return [0]


def poke(machine, address, word):
    if not is_address(address) or not is_word(word):
        return [OUT_OF_RANGE]
    machine.drum[address] = word
    return [0]


def peek(machine, address):
    if not is_address(address):
        return [OUT_OF_RANGE]
    return [0, machine.drum[address]]


def place(machine, text, placing):
    if len(text) > MOST_BYTES:
        return [OUT_OF_RANGE]
    rows = rows_of_text(text)
    if first_fault(rows) is not None:
        return [NO_PROGRAM]
    if len(placing) != len(rows):
        return [OUT_OF_RANGE]
    if not fits(rows, placing):
        return [DOES_NOT_FIT]
    lay_program(machine, rows, placing)
    return [0]


def are_cards(words):
    if len(words) > MOST_CARD_WORDS or len(words) % CARD_SIZE != 0:
        return False
    return all([is_word(word) for word in words])


def run(machine, most, cards):
    if most < 0 or most > MOST_ORDERS or not are_cards(cards):
        return [OUT_OF_RANGE]
    deck = Deck(cards)
    begun = run_orders(machine, most, deck)
    return [0, begun, deck.cards_read] + deck.punched


def told(machine):
    return [0, machine.state, machine.over, machine.n, machine.t, machine.a, machine.d]


def rewind(machine):
    machine.rewind()
    return [0]


def what_is_reached(machine):
    return Reached(machine.drum, machine.n)


def reach(machine):
    return [0] + marked_addresses(what_is_reached(machine))


def why(machine):
    found = hindrance(what_is_reached(machine))
    return [0, 0, 0] if found is None else [0, found[0], found[1]]


def tell_text(machine):
    reached = what_is_reached(machine)
    if hindrance(reached) is not None:
        return [NOT_TO_BE_LISTED]
    return [0] + [ord(sign) for sign in listed_text(reached)]


def tell_placing(machine):
    reached = what_is_reached(machine)
    if hindrance(reached) is not None:
        return [NOT_TO_BE_LISTED]
    return [0] + listed_placing(reached)

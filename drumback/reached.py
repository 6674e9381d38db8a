"""What is reached of a machine: the orders' addresses, and the words that the orders there use."""

from drumback.orders import CARD_SIZE, HLT, code_of, data_of, fault_of, following_of, operand_of, words_used
from drumback.words import BAND_SIZE, DRUM_SIZE, addresses_around


def ways_on(word):
    """The addresses at which the next order may lie behind this one."""
    if fault_of(word) != 0 or code_of(word) == HLT:
        return []
    if operand_of(code_of(word)) == "jump":
        return [following_of(word), data_of(word)]
    return [following_of(word)]


def order_addresses(drum, start):
    """The orders' addresses, by rising addresses."""
    found = {start: True}
    waiting = [start]
    while len(waiting) > 0:
        address = waiting.pop()
        for way in ways_on(drum[address]):
            if way not in found:
                found[way] = True
                waiting.append(way)
    return sorted(found)


def data_addresses(drum, orders, size):
    """The data addresses of the orders that use so many words, each once, by rising addresses."""
    found = {}
    for address in orders:
        word = drum[address]
        if fault_of(word) == 0 and words_used(code_of(word)) == size:
            found[data_of(word)] = True
    return sorted(found)


def homes_of(bands, cards, singles):
    """Of each used word the address at which its item begins.

    A word that is used in more than one way is of the greatest item, so the greatest go first. Where the machine
    can't be listed only the used words themselves mean something.
    """
    homes = {}
    for starts, size in ((bands, BAND_SIZE), (cards, CARD_SIZE), (singles, 1)):
        for start in starts:
            for address in addresses_around(start, size):
                homes.setdefault(address, start)
    return homes


class Reached:
    """The machine's drum, where its next order lies, and what is reached from there.

    orders are the orders' addresses; bands, cards and singles are the data addresses of the orders that use forty
    words, eight and one; homes has each used word, with the address at which its item begins.
    """

    def __init__(self, drum, start):
        self.drum = drum
        self.start = start
        self.orders = order_addresses(drum, start)
        self.bands = data_addresses(drum, self.orders, BAND_SIZE)
        self.cards = data_addresses(drum, self.orders, CARD_SIZE)
        self.singles = data_addresses(drum, self.orders, 1)
        self.homes = homes_of(self.bands, self.cards, self.singles)


def marked_addresses(reached):
    """Each reached address and 1 for an order's, 2 for a used word's, 3 for both, in one list."""
    marks = [0] * DRUM_SIZE
    for address in reached.orders:
        marks[address] += 1
    for address in reached.homes:
        marks[address] += 2
    told = []
    for address, mark in enumerate(marks):
        if mark != 0:
            told.extend([address, mark])
    return told

"""What is reached of a machine, listed as a program: its items, their lines and addresses, and what hinders it."""

from drumback.orders import CARD_SIZE, HLT, code_of, data_of, fault_of, following_of, letters_of, operand_of
from drumback.program import MOST_ROWS
from drumback.words import BAND_SIZE, addresses_around


def first_faulty(reached):
    for address in reached.orders:
        if fault_of(reached.drum[address]) != 0:
            return address
    return None


def first_order_used(reached):
    for address in reached.orders:
        if address in reached.homes:
            return address
    return None


def first_overlap(starts, size):
    """The first of the rising addresses from which so many words are in part those of one before it."""
    taken = {}
    for start in starts:
        around = addresses_around(start, size)
        if any([address in taken for address in around]):
            return start
        for address in around:
            taken[address] = True
    return None


def first_card_amid_band(reached):
    """The first data address of a card in a band that an order of 60 uses from another address on."""
    by_band = {}
    for start in reached.bands:
        by_band.setdefault(start // BAND_SIZE, []).append(start)
    for start in reached.cards:
        if any([other != start for other in by_band.get(start // BAND_SIZE, [])]):
            return start
    return None


def first_clash(reached):
    # Data addresses rise and differ, so an overlap tells the greater of the two, and the least of those.
    found = [
        first_overlap(reached.bands, BAND_SIZE),
        first_overlap(reached.cards, CARD_SIZE),
        first_card_amid_band(reached),
    ]
    return min([address for address in found if address is not None], default=None)


def number_sizes(reached):
    """Of each item of numbers its address and how many words it has."""
    sizes = {}
    for home in reached.homes.values():
        sizes[home] = sizes.get(home, 0) + 1
    return sizes


def zero_if_too_many(reached):
    total = len(reached.orders) + len(number_sizes(reached))
    return 0 if total > MOST_ROWS else None


# In the order of their kinds, from kind 1 on: each tells the address, or None where it doesn't hold.
HINDRANCES = (
    first_faulty,
    first_order_used,
    first_clash,
    zero_if_too_many,
)


def hindrance(reached):
    """The kind and the address of what hinders the listing, None where nothing does."""
    for kind, hindered_at in enumerate(HINDRANCES, start=1):
        address = hindered_at(reached)
        if address is not None:
            return (kind, address)
    return None


def item_name(address):
    return "a" + str(address)


def operand_parts(reached, word):
    """What stands behind the letters of an order: its operand, if it has one."""
    sort = operand_of(code_of(word))
    data = data_of(word)
    if sort == "none":
        return []
    if sort == "shift":
        return [str(data)]
    if sort == "jump":
        return [item_name(data)]
    home = reached.homes[data]
    name = item_name(home)
    which = (data - home) % BAND_SIZE
    return [name] if which == 0 else [name + "+" + str(which)]


def order_line(reached, address):
    word = reached.drum[address]
    code = code_of(word)
    parts = [item_name(address) + ":", letters_of(code)] + operand_parts(reached, word)
    if code != HLT:
        parts.extend(["->", item_name(following_of(word))])
    return " ".join(parts)


def numbers_line(reached, address, size):
    words = [str(reached.drum[each]) for each in addresses_around(address, size)]
    return " ".join([item_name(address), "="] + words)


def listed_placing(reached):
    """The items' addresses: the next order's, then the others by rising addresses."""
    others = sorted(reached.orders + list(number_sizes(reached)))
    return [reached.start] + [address for address in others if address != reached.start]


def listed_text(reached):
    sizes = number_sizes(reached)
    lines = []
    for address in listed_placing(reached):
        if address in sizes:
            lines.append(numbers_line(reached, address, sizes[address]))
        else:
            lines.append(order_line(reached, address))
    return "".join([line + "\n" for line in lines])

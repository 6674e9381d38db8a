"""A program's items laid on the drum."""

from drumback.lines import Order, word_count
from drumback.orders import order_word
from drumback.program import next_orders, order_lines, rows_by_name
from drumback.words import addresses_around, around_band, is_address


def fits(rows, placing):
    """Do the items lie on the drum so, each word where no other does? There is an address for each item."""
    taken = {}
    for row, start in zip(rows, placing):
        if not is_address(start):
            return False
        for address in addresses_around(start, word_count(row)):
            if address in taken:
                return False
            taken[address] = True
    return True


def data_address(order, named, placing):
    if order.target == "":
        return order.number
    return around_band(placing[named[order.target]], order.number)


def lay_orders(machine, rows, placing):
    named = rows_by_name(rows)
    following = next_orders(rows, named)
    for line in order_lines(rows):
        order = rows[line]
        behind = following[line]
        target = 0 if behind is None else placing[behind]
        machine.drum[placing[line]] = order_word(order.code, data_address(order, named, placing), target)


def lay_numbers(machine, rows, placing):
    for row, start in zip(rows, placing):
        if not isinstance(row, Order):
            for distance, word in enumerate(row.words):
                machine.drum[around_band(start, distance)] = word


def lay_program(machine, rows, placing):
    """The machine becomes the program's, by a placing that fits."""
    machine.renew(placing[order_lines(rows)[0]])
    lay_orders(machine, rows, placing)
    lay_numbers(machine, rows, placing)

"""A program's items, and the first fault of a text that is no program's."""

from drumback.lines import Numbers, Order, word_count
from drumback.orders import CARD_SIZE, HLT, PCH, RDC, TLU, operand_of
from drumback.words import BAND_SIZE, DRUM_SIZE

MOST_ROWS = 400


def rows_by_name(rows):
    """Of each name the number of the first item that has it."""
    named = {}
    for line, row in enumerate(rows):
        if row.name != "" and row.name not in named:
            named[row.name] = line
    return named


def order_lines(rows):
    return [line for line, row in enumerate(rows) if isinstance(row, Order)]


def is_order_name(rows, named, name):
    return name in named and isinstance(rows[named[name]], Order)


def is_word_operand(order, item):
    if not isinstance(item, Numbers) or order.number >= len(item.words):
        return False
    if order.code == TLU:
        return len(item.words) == BAND_SIZE and order.number == 0
    if order.code in (RDC, PCH):
        return len(item.words) >= CARD_SIZE and order.number == 0
    return True


def has_good_operand(rows, named, order):
    sort = operand_of(order.code)
    if sort == "jump":
        return is_order_name(rows, named, order.target)
    if sort == "word":
        return order.target in named and is_word_operand(order, rows[named[order.target]])
    return True


def line_named_again(rows, named):
    for line, row in enumerate(rows):
        if row.name != "" and named[row.name] != line:
            return line
    return None


def line_of_bad_operand(rows, named):
    for line, row in enumerate(rows):
        if isinstance(row, Order) and not has_good_operand(rows, named, row):
            return line
    return None


def line_of_bad_follow(rows, named):
    for line, row in enumerate(rows):
        if isinstance(row, Order) and row.follow != "" and not is_order_name(rows, named, row.follow):
            return line
    return None


def line_without_next(rows, named):
    # Only the last order line has no order line behind it.
    lines = order_lines(rows)
    if len(lines) == 0:
        return None
    last = rows[lines[-1]]
    if last.code == HLT or last.follow != "":
        return None
    return lines[-1]


def line_too_many(rows, named):
    total = 0
    for line, row in enumerate(rows):
        total += word_count(row)
        if line >= MOST_ROWS or total > DRUM_SIZE:
            return line
    return None


def line_of_no_order(rows, named):
    return len(rows) if len(order_lines(rows)) == 0 else None


# In the order of their kinds, from kind 2 on.
FAULT_LINES = (
    line_named_again,
    line_of_bad_operand,
    line_of_bad_follow,
    line_without_next,
    line_too_many,
    line_of_no_order,
)


def first_fault(rows):
    """The kind and the line of the first fault, None where the rows are a program's."""
    for line, row in enumerate(rows):
        if row is None:
            return (1, line)
    named = rows_by_name(rows)
    for kind, fault_line in enumerate(FAULT_LINES, start=2):
        line = fault_line(rows, named)
        if line is not None:
            return (kind, line)
    return None


def next_orders(rows, named):
    """Of each item the number of the next order's item, None where there is none."""
    following = []
    behind = None
    for line in range(len(rows) - 1, -1, -1):
        row = rows[line]
        told = None
        if isinstance(row, Order):
            if row.follow != "":
                told = named[row.follow]
            elif row.code != HLT:
                told = behind
            behind = line
        following.append(told)
    following.reverse()
    return following

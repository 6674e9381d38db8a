"""The lines of a program's text, each told by its shape alone."""

from drumback.orders import HLT, MOST_SHIFTED, code_of_letters, operand_of
from drumback.words import BAND_SIZE

LETTERS = "abcdefghijklmnopqrstuvwxyz"
DIGITS = "0123456789"
SIGNS = "\n abcdefghijklmnopqrstuvwxyzABCDEFGHIJKLMNOPQRSTUVWXYZ0123456789:->+="
# Stands for every byte that no line may have: it is in none of the shapes.
STRANGE = "?"
NAME_SIZE = 12
WORD_DIGITS = 10


class Order:
    """An order line. A name that isn't told is the empty text.

    target is the operand's name; number is which word of it, or how far to shift; follow is the name behind ->.
    """

    def __init__(self, name, code, target, number, follow):
        self.name = name
        self.code = code
        self.target = target
        self.number = number
        self.follow = follow


class Numbers:
    """A line of numbers: its name and its words."""

    def __init__(self, name, words):
        self.name = name
        self.words = words


def word_count(row):
    return len(row.words) if isinstance(row, Numbers) else 1


def signs_of(codes):
    """The bytes as a text."""
    known = {}
    for sign in SIGNS:
        known[ord(sign)] = sign
    return "".join([known.get(code, STRANGE) for code in codes])


def is_name(part):
    if part == "" or len(part) > NAME_SIZE or part[0] not in LETTERS:
        return False
    return all([sign in LETTERS or sign in DIGITS for sign in part])


def is_written_number(part):
    """Decimal digits, none needless, and no more of them than a word has."""
    if part == "" or len(part) > WORD_DIGITS:
        return False
    if part[0] == "0" and part != "0":
        return False
    return all([sign in DIGITS for sign in part])


def is_written_word(part):
    if part.startswith("-"):
        return part != "-0" and is_written_number(part[1:])
    return is_written_number(part)


def is_written_from(part, least, most):
    return is_written_number(part) and least <= int(part) <= most


def numbers_of(parts):
    """The item of a line whose second part is =, None where the line has no such shape."""
    words = parts[2:]
    if not is_name(parts[0]) or len(words) < 1 or len(words) > BAND_SIZE:
        return None
    if not all([is_written_word(word) for word in words]):
        return None
    return Numbers(parts[0], [int(word) for word in words])


def word_operand(part):
    """The item's name and which word of it, None where the part isn't written so."""
    pieces = part.partition("+")
    name = pieces[0]
    which = pieces[2]
    if not is_name(name):
        return None
    if name == part:
        return (name, 0)
    if not is_written_from(which, 1, BAND_SIZE - 1):
        return None
    return (name, int(which))


def read_operand(sort, parts):
    """The operand's name and number, None where the parts behind an order's letters aren't of this sort."""
    if sort == "none":
        return ("", 0) if len(parts) == 0 else None
    if len(parts) != 1:
        return None
    if sort == "word":
        return word_operand(parts[0])
    if sort == "jump":
        return (parts[0], 0) if is_name(parts[0]) else None
    return ("", int(parts[0])) if is_written_from(parts[0], 0, MOST_SHIFTED) else None


def bare_order(name, parts, follow):
    """The order whose letters and operand are the parts, None where they have no such shape."""
    if len(parts) == 0:
        return None
    code = code_of_letters(parts[0])
    if code is None or (code == HLT and follow != ""):
        return None
    operand = read_operand(operand_of(code), parts[1:])
    if operand is None:
        return None
    return Order(name, code, operand[0], operand[1], follow)


def order_of(parts):
    """The item of an order line, None where the line has no such shape."""
    name = ""
    follow = ""
    if parts[0].endswith(":"):
        name = parts[0][:-1]
        parts = parts[1:]
        if not is_name(name):
            return None
    if len(parts) >= 2 and parts[-2] == "->":
        follow = parts[-1]
        parts = parts[:-2]
        if not is_name(follow):
            return None
    return bare_order(name, parts, follow)


def item_of_line(line):
    """The line's item, None where the line is of no shape."""
    parts = line.split(" ")
    if len(parts) >= 2 and parts[1] == "=":
        return numbers_of(parts)
    return order_of(parts)


def rows_of_text(codes):
    """Of each line its item, or None where the line is of no shape."""
    lines = signs_of(codes).split("\n")
    rest = lines.pop()
    rows = [item_of_line(line) for line in lines]
    if rest != "":
        rows.append(None)
    return rows

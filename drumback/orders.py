"""The table of orders, and an order's word put together and taken apart."""

from drumback.words import BAND_SIZE, DRUM_SIZE

CODE_STEP = 100000000
DATA_STEP = 10000
MOST_SHIFTED = 20
CARD_SIZE = 8

HLT = 0
TLU = 60
RDC = 70
PCH = 71

# Of each code its letters, and what its data address stands for.
ORDERS = {
    0: ("HLT", "none"),
    1: ("NOP", "none"),
    10: ("LDA", "word"),
    11: ("LDN", "word"),
    12: ("ADD", "word"),
    13: ("SUB", "word"),
    14: ("ADM", "word"),
    15: ("SBM", "word"),
    16: ("ADU", "word"),
    17: ("SBU", "word"),
    18: ("LDD", "word"),
    20: ("MUL", "word"),
    21: ("DIV", "word"),
    30: ("STL", "word"),
    31: ("STU", "word"),
    32: ("STD", "word"),
    40: ("SHL", "shift"),
    41: ("SHR", "shift"),
    42: ("SRR", "shift"),
    43: ("SCT", "none"),
    50: ("BMI", "jump"),
    51: ("BNZ", "jump"),
    52: ("BOV", "jump"),
    60: ("TLU", "word"),
    70: ("RDC", "word"),
    71: ("PCH", "word"),
}


def operand_of(code):
    return ORDERS[code][1]


def letters_of(code):
    return ORDERS[code][0]


def words_used(code):
    """How many words from the data address on, around the band, an order of this code uses."""
    if code == TLU:
        return BAND_SIZE
    if code in (RDC, PCH):
        return CARD_SIZE
    return 1 if operand_of(code) == "word" else 0


def code_of_letters(letters):
    """None where no order has these letters."""
    for code, row in ORDERS.items():
        if row[0] == letters:
            return code
    return None


def order_word(code, data, following):
    return code * CODE_STEP + data * DATA_STEP + following


def code_of(word):
    return word // CODE_STEP


def data_of(word):
    return word // DATA_STEP % DATA_STEP


def following_of(word):
    return word % DATA_STEP


def loads_first(code):
    """Does the word at the data address become D first? Asked of codes in the table alone."""
    return 10 <= code <= 21


def waits_for_data(code):
    """Asked of codes in the table alone, as the range has others in it too."""
    return 10 <= code <= 32 or code == TLU


def fault_of(word):
    """The fault that the word by itself has (2 to 5), 0 where it has none."""
    if word < 0:
        return 2
    code = code_of(word)
    if code not in ORDERS:
        return 3
    if code != HLT and following_of(word) >= DRUM_SIZE:
        return 4
    operand = operand_of(code)
    if operand in ("word", "jump") and data_of(word) >= DRUM_SIZE:
        return 4
    if operand == "shift" and data_of(word) > MOST_SHIFTED:
        return 5
    return 0

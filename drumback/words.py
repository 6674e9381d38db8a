"""Words, longs and addresses: the numbers that the other files reckon with."""

WORD_END = 10000000000
LONG_END = 100000000000000000000
DRUM_SIZE = 2000
BAND_SIZE = 40


def is_word(number):
    return -WORD_END < number < WORD_END


def is_long(number):
    return -LONG_END < number < LONG_END


def is_address(number):
    return 0 <= number < DRUM_SIZE


def with_sign_of(number, size):
    return -size if number < 0 else size


def upper_word(number):
    return with_sign_of(number, abs(number) // WORD_END)


def lower_word(number):
    return with_sign_of(number, abs(number) % WORD_END)


def lower_twenty(number):
    """What is kept of a number that is no long."""
    return with_sign_of(number, abs(number) % LONG_END)


def quotient_toward_zero(number, divisor):
    size = abs(number) // abs(divisor)
    return size if (number < 0) == (divisor < 0) else -size


def digit_sum(number):
    rest = abs(number)
    total = 0
    while rest > 0:
        total += rest % 10
        rest = rest // 10
    return total


def power_of_ten(exponent):
    power = 1
    for turn in range(exponent):
        power = power * 10
    return power


def around_band(address, distance):
    """The address so many places on, without leaving the band."""
    return address - address % BAND_SIZE + (address + distance) % BAND_SIZE


def addresses_around(address, how_many):
    return [around_band(address, distance) for distance in range(how_many)]


def band_from(drum, address):
    """The words of the address's band, from the address on around it."""
    place = address % BAND_SIZE
    first = address - place
    return drum[address:first + BAND_SIZE] + drum[first:address]

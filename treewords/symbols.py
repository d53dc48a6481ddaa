"""Which numbers are symbols: 0 to 255 are names, 256 to 511 the bytes that are 256 less."""

MOST_NAME = 255
FIRST_BYTE = 256
MOST_SYMBOL = 511


def is_name(number):
    return 0 <= number <= MOST_NAME


def is_byte(symbol):
    return symbol >= FIRST_BYTE


def is_symbol(number):
    return 0 <= number <= MOST_SYMBOL


def all_symbols(numbers):
    return all([is_symbol(number) for number in numbers])

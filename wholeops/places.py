"""The operations 27 to 34, single ones, bits and bytes: what register d gets, None where it isn't written, and the
flags afterwards.

What it gets is cut to W bits where it is written.
"""

from wholeops.bits import CARRY, ZERO, bit, ones, replaced, when


def lowest_one(x, y, n, flags, width):
    if y == 0:
        return None, replaced(flags, ZERO, ZERO)
    # Of y and -y together only the lowest 1 is left.
    return (y & -y).bit_length() - 1, replaced(flags, ZERO, 0)


def highest_one(x, y, n, flags, width):
    if y == 0:
        return None, replaced(flags, ZERO, ZERO)
    return y.bit_length() - 1, replaced(flags, ZERO, 0)


def number_of_ones(x, y, n, flags, width):
    return ones(y), when(ZERO, y == 0)


def bytes_turned_round(x, y, n, flags, width):
    result = 0
    for place in range(0, width, 8):
        result = (result << 8) + ((x >> place) & 255)
    return result, flags


def bit_told(x, n, flags, width):
    return replaced(flags, CARRY, bit(x, n % width))


def bit_asked(x, y, n, flags, width):
    return None, bit_told(x, n, flags, width)


def bit_set(x, y, n, flags, width):
    return x | (1 << (n % width)), bit_told(x, n, flags, width)


def bit_cleared(x, y, n, flags, width):
    return x & ~(1 << (n % width)), bit_told(x, n, flags, width)


def bit_changed(x, y, n, flags, width):
    return x ^ (1 << (n % width)), bit_told(x, n, flags, width)


PLACES = {
    27: lowest_one,
    28: highest_one,
    29: number_of_ones,
    30: bytes_turned_round,
    31: bit_asked,
    32: bit_set,
    33: bit_cleared,
    34: bit_changed,
}


def placed(op, x, y, n, flags, width):
    return PLACES[op](x, y, n, flags, width)

"""Numbers of W bits, W being 8, 16, 32 or 64, and the flags that tell of them."""

CARRY = 1
PARITY = 4
HALF_CARRY = 16
ZERO = 64
SIGN = 128
OVERFLOW = 2048

# The six together: no other bit stands for anything.
ALL_FLAGS = 2261


def cut(number, width):
    """The low bits of a number of any sign."""
    return number % (1 << width)


def bit(number, place):
    return (number >> place) & 1


def highest_bit(number, width):
    return bit(number, width - 1)


def signed(number, width):
    """What the same bits are in two's complement."""
    return number - (highest_bit(number, width) << width)


def ones(number):
    return sum([bit(number, place) for place in range(number.bit_length())])


def when(flags, so):
    """These flags where it is so, else none."""
    return flags if so else 0


def replaced(flags, which, now):
    """The flags, but those of which are as now has them."""
    return (flags & (ALL_FLAGS - which)) | now


def flags_of(result, width):
    """Z, S and P of a result; the other flags are not set."""
    return (when(ZERO, result == 0)
            + when(SIGN, highest_bit(result, width) == 1)
            + when(PARITY, ones(result & 255) % 2 == 0))

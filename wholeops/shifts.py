"""The operations 14 to 22, shifts and turns: what register d gets, None where it isn't written, and the flags
afterwards.

What it gets is cut to W bits where it is written.
"""

from wholeops.bits import CARRY, OVERFLOW, bit, cut, flags_of, highest_bit, replaced, signed, when


def shift_count(n, width):
    """How far a shift or a turn goes; n of any sign."""
    return n % 64 if width == 64 else n % 32


def shift_flags(result, carry, overflow, width):
    return flags_of(result, width) + when(CARRY, carry) + when(OVERFLOW, overflow)


def turn_flags(flags, carry, overflow):
    return replaced(flags, CARRY + OVERFLOW, when(CARRY, carry) + when(OVERFLOW, overflow))


def two_highest_differ(number, width):
    return bit(number, width - 1) != bit(number, width - 2)


def turned_left(number, k, width):
    """A number of that many bits, k being from 0 to as many."""
    return cut((number << k) | (number >> (width - k)), width)


def left(x, y, k, flags, width):
    result = cut(x << k, width)
    # Bit W of x * 2^k is x's bit W - k, and 0 for a k above W, where x has no such bit.
    carry = bit(x << k, width)
    return result, shift_flags(result, carry == 1, highest_bit(result, width) != carry, width)


def right(x, y, k, flags, width):
    result = x >> k
    return result, shift_flags(result, bit(x, k - 1) == 1, highest_bit(x, width) == 1, width)


def right_with_sign(x, y, k, flags, width):
    number = signed(x, width)
    result = cut(number >> k, width)
    return result, shift_flags(result, bit(number, k - 1) == 1, False, width)


def turn_left(x, y, k, flags, width):
    result = turned_left(x, k % width, width)
    carry = bit(result, 0)
    return result, turn_flags(flags, carry == 1, highest_bit(result, width) != carry)


def turn_right(x, y, k, flags, width):
    result = turned_left(x, width - k % width, width)
    return result, turn_flags(flags, highest_bit(result, width) == 1, two_highest_differ(result, width))


def turn_left_through_carry(x, y, k, flags, width):
    j = k % (width + 1)
    if j == 0:
        return None, flags
    turned = turned_left(x + ((flags & CARRY) << width), j, width + 1)
    carry = bit(turned, width)
    return turned, turn_flags(flags, carry == 1, highest_bit(turned, width) != carry)


def turn_right_through_carry(x, y, k, flags, width):
    j = k % (width + 1)
    if j == 0:
        return None, flags
    turned = turned_left(x + ((flags & CARRY) << width), width + 1 - j, width + 1)
    return turned, turn_flags(flags, bit(turned, width) == 1, two_highest_differ(turned, width))


def fill_flags(x, result, carry, width):
    changed = highest_bit(result, width) != highest_bit(x, width)
    return shift_flags(result, carry == 1, changed, width)


def left_filled(x, y, k, flags, width):
    result = cut((x << k) + (y >> (width - k)), width)
    return result, fill_flags(x, result, bit(x, width - k), width)


def right_filled(x, y, k, flags, width):
    result = cut((x >> k) + (y << (width - k)), width)
    return result, fill_flags(x, result, bit(x, k - 1), width)


SHIFTS = {
    14: left,
    15: right,
    16: right_with_sign,
    17: turn_left,
    18: turn_right,
    19: turn_left_through_carry,
    20: turn_right_through_carry,
    21: left_filled,
    22: right_filled,
}


def shifted(op, x, y, n, flags, width):
    k = shift_count(n, width)
    if k == 0:
        return None, flags
    return SHIFTS[op](x, y, k, flags, width)

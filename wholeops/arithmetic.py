"""The operations 0 to 13: what register d gets, None where it isn't written, and the flags afterwards.

What it gets is cut to W bits where it is written.
"""

from wholeops.bits import CARRY, HALF_CARRY, OVERFLOW, cut, flags_of, replaced, signed, when


def fits_with_sign(number, width):
    return signed(cut(number, width), width) == number


def sum_flags(x, y, carry, width):
    total = x + y + carry
    signed_total = signed(x, width) + signed(y, width) + carry
    return (flags_of(cut(total, width), width)
            + when(CARRY, total != cut(total, width))
            + when(HALF_CARRY, cut(x, 4) + cut(y, 4) + carry > 15)
            + when(OVERFLOW, not fits_with_sign(signed_total, width)))


def difference_flags(x, y, borrow, width):
    rest = x - y - borrow
    signed_rest = signed(x, width) - signed(y, width) - borrow
    return (flags_of(cut(rest, width), width)
            + when(CARRY, rest < 0)
            + when(HALF_CARRY, cut(x, 4) - cut(y, 4) - borrow < 0)
            + when(OVERFLOW, not fits_with_sign(signed_rest, width)))


def move(x, y, flags, width):
    return y, flags


def add(x, y, flags, width):
    return x + y, sum_flags(x, y, 0, width)


def add_with_carry(x, y, flags, width):
    carry = flags & CARRY
    return x + y + carry, sum_flags(x, y, carry, width)


def subtract(x, y, flags, width):
    return x - y, difference_flags(x, y, 0, width)


def subtract_with_borrow(x, y, flags, width):
    borrow = flags & CARRY
    return x - y - borrow, difference_flags(x, y, borrow, width)


def compare(x, y, flags, width):
    return None, difference_flags(x, y, 0, width)


def bits_of_both(x, y, flags, width):
    return x & y, flags_of(x & y, width)


def bits_of_either(x, y, flags, width):
    return x | y, flags_of(x | y, width)


def bits_of_one_alone(x, y, flags, width):
    return x ^ y, flags_of(x ^ y, width)


def bits_of_both_asked(x, y, flags, width):
    return None, flags_of(x & y, width)


def one_more(x, y, flags, width):
    return x + 1, replaced(sum_flags(x, 1, 0, width), CARRY, flags & CARRY)


def one_less(x, y, flags, width):
    return x - 1, replaced(difference_flags(x, 1, 0, width), CARRY, flags & CARRY)


def negate(x, y, flags, width):
    return -x, difference_flags(0, x, 0, width)


def opposite_bits(x, y, flags, width):
    return ~x, flags


ARITHMETIC = {
    0: move,
    1: add,
    2: add_with_carry,
    3: subtract,
    4: subtract_with_borrow,
    5: compare,
    6: bits_of_both,
    7: bits_of_either,
    8: bits_of_one_alone,
    9: bits_of_both_asked,
    10: one_more,
    11: one_less,
    12: negate,
    13: opposite_bits,
}


def computed(op, x, y, flags, width):
    return ARITHMETIC[op](x, y, flags, width)

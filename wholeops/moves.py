"""The operations 35, 36 and 40 to 42, moves by a condition and widened ones: what register d gets, None where it
isn't written, and the flags afterwards.

What it gets is cut to W bits where it is written.
"""

from wholeops.bits import cut, flags_of, signed
from wholeops.conditions import condition_holds


def move_if(y, n, flags, width):
    if condition_holds(flags, n):
        return y, flags
    return None, flags


def truth(y, n, flags, width):
    return (1 if condition_holds(flags, n) else 0), flags


def low_bytes_with_sign(y, n):
    return signed(cut(y, 8 * n), 8 * n)


def widened(y, n, flags, width):
    return cut(y, 8 * n), flags


def widened_with_sign(y, n, flags, width):
    return low_bytes_with_sign(y, n), flags


def widened_with_flags(y, n, flags, width):
    result = low_bytes_with_sign(y, n)
    return result, flags_of(cut(result, width), width)


MOVES = {
    35: move_if,
    36: truth,
    40: widened,
    41: widened_with_sign,
    42: widened_with_flags,
}


def moved(op, y, n, flags, width):
    return MOVES[op](y, n, flags, width)

"""The conditions 0 to 15: what the flags are asked for."""

from wholeops.bits import OVERFLOW, SIGN, ZERO

CONDITIONS = 16

# By half the condition's number, one of the flags is enough: O; C; Z; C or Z; S; P.
ENOUGH = (2048, 1, 64, 65, 128, 4)


def is_condition(number):
    return 0 <= number < CONDITIONS


def even_condition_holds(flags, condition):
    """As condition_holds, of the even number alone that a condition and its opposite begin with."""
    if condition < 12:
        return (flags & ENOUGH[condition // 2]) != 0
    differs = (flags & SIGN != 0) != (flags & OVERFLOW != 0)
    if condition == 12:
        return differs
    return differs or (flags & ZERO) != 0


def condition_holds(flags, condition):
    """Whether a condition from 0 to 15 holds."""
    opposite = condition % 2
    return even_condition_holds(flags, condition - opposite) != (opposite == 1)

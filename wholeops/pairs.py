"""The operations that may write another register than d: products, quotients and exchanges."""

from wholeops.arithmetic import difference_flags, sum_flags
from wholeops.bits import CARRY, OVERFLOW, cut, flags_of, signed, when

PRODUCT = 23
SIGNED_PRODUCT = 24
QUOTIENT = 25
SIGNED_QUOTIENT = 26
EXCHANGE = 37
EXCHANGE_AND_ADD = 38
COMPARE_AND_EXCHANGE = 39


def is_pair_operation(op):
    return PRODUCT <= op <= SIGNED_QUOTIENT or EXCHANGE <= op <= COMPARE_AND_EXCHANGE


def understood(number, width, with_sign):
    return signed(number, width) if with_sign else number


def multiply(processor, with_sign, width, d, s):
    x = understood(processor.low(d, width), width, with_sign)
    y = understood(processor.low(s, width), width, with_sign)
    product = x * y
    half = cut(product, width)
    processor.write(d, width, half)
    processor.write(s, width, product >> width)
    too_long = understood(half, width, with_sign) != product
    processor.flags = flags_of(half, width) + when(CARRY + OVERFLOW, too_long)


def quotient_toward_0(number, divisor):
    quotient = abs(number) // abs(divisor)
    return quotient if (number < 0) == (divisor < 0) else -quotient


def divide(processor, with_sign, width, d, s, n):
    """Gives back whether it is done; else it traps."""
    halves = (processor.low(s, width) << width) + processor.low(d, width)
    number = understood(halves, 2 * width, with_sign)
    divisor = understood(processor.low(n, width), width, with_sign)
    if divisor == 0:
        return False
    quotient = quotient_toward_0(number, divisor)
    if understood(cut(quotient, width), width, with_sign) != quotient:
        return False
    processor.write(d, width, quotient)
    processor.write(s, width, number - quotient * divisor)
    return True


def exchange(processor, width, d, s):
    x = processor.low(d, width)
    processor.write(d, width, processor.low(s, width))
    processor.write(s, width, x)


def exchange_and_add(processor, width, d, s):
    x = processor.low(d, width)
    y = processor.low(s, width)
    processor.flags = sum_flags(x, y, 0, width)
    # In this order, so that the sum is what stays where d and s are the same.
    processor.write(s, width, x)
    processor.write(d, width, x + y)


def compare_and_exchange(processor, width, d, s):
    x = processor.low(d, width)
    z = processor.low(0, width)
    processor.flags = difference_flags(z, x, 0, width)
    if z == x:
        processor.write(d, width, processor.low(s, width))
    else:
        processor.write(0, width, x)


def perform_pair(processor, op, width, d, s, n):
    """Does a pair operation and gives back whether it is done; else it traps and nothing has changed."""
    if op == PRODUCT or op == SIGNED_PRODUCT:
        multiply(processor, op == SIGNED_PRODUCT, width, d, s)
    elif op == EXCHANGE:
        exchange(processor, width, d, s)
    elif op == EXCHANGE_AND_ADD:
        exchange_and_add(processor, width, d, s)
    elif op == COMPARE_AND_EXCHANGE:
        compare_and_exchange(processor, width, d, s)
    else:
        return divide(processor, op == SIGNED_QUOTIENT, width, d, s, n)
    return True

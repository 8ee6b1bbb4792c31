"""What is refused before anything is done."""

from wholeops.conditions import is_condition
from wholeops.pairs import QUOTIENT, SIGNED_QUOTIENT
from wholeops.shifts import shift_count

REGISTERS = 16
LAST_OPERATION = 42
SIZES = (1, 2, 4, 8)

LEFT_FILLED = 21
RIGHT_FILLED = 22
BYTES_TURNED_ROUND = 30
MOVE_IF = 35
TRUTH = 36
WIDENED = 40


def is_place(r):
    """Whether there is a register r; a list's own index would take -1 to -16 too."""
    return 0 <= r < REGISTERS


def is_refused_by_operation(op, size, n):
    """What single operations refuse, of a size that there is."""
    if op == LEFT_FILLED or op == RIGHT_FILLED:
        return size == 1 or shift_count(n, 8 * size) > 8 * size
    if op == QUOTIENT or op == SIGNED_QUOTIENT:
        return not is_place(n)
    if op == BYTES_TURNED_ROUND:
        return size < 4
    if op == MOVE_IF:
        return size == 1 or not is_condition(n)
    if op == TRUTH:
        return size != 1 or not is_condition(n)
    if op >= WIDENED:
        return n not in (1, 2, 4) or n >= size
    return False


def is_refused(op, size, d, s, n):
    if not 0 <= op <= LAST_OPERATION or size not in SIZES:
        return True
    if not is_place(d) or not is_place(s):
        return True
    return is_refused_by_operation(op, size, n)

"""The operations by their numbers, done on a processor."""

from wholeops.arithmetic import computed
from wholeops.moves import moved
from wholeops.pairs import is_pair_operation, perform_pair
from wholeops.places import placed
from wholeops.shifts import shifted

LAST_ARITHMETIC = 13
LAST_SHIFT = 22
LAST_PLACE = 34


def outcome(op, x, y, n, flags, width):
    """What register d gets, None where it isn't written, and the flags afterwards."""
    if op <= LAST_ARITHMETIC:
        return computed(op, x, y, flags, width)
    if op <= LAST_SHIFT:
        return shifted(op, x, y, n, flags, width)
    if op <= LAST_PLACE:
        return placed(op, x, y, n, flags, width)
    return moved(op, y, n, flags, width)


def perform(processor, op, width, d, s, n):
    """Does an operation that isn't refused and gives back whether it is done; else it traps, nothing has changed."""
    if is_pair_operation(op):
        return perform_pair(processor, op, width, d, s, n)
    result = outcome(op, processor.low(d, width), processor.low(s, width), n, processor.flags, width)
    if result[0] is not None:
        processor.write(d, width, result[0])
    processor.flags = result[1]
    return True

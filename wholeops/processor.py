"""One processor, sixteen registers and six flags, and the calls on it."""

from wholeops.bits import ALL_FLAGS, cut
from wholeops.conditions import condition_holds, is_condition
from wholeops.operations import perform
from wholeops.refusals import REGISTERS, is_place, is_refused

SET = 0
GET = 1
FLAGS = 2
PUT = 3
HOLDS = 4
DO = 5
RUN = 6

# By the call's number: how many whole numbers stand behind it. Behind a run the first of them tells how many more do.
ARGUMENTS = (2, 1, 0, 1, 1, 5, 1)

DONE = 0
TRAPPED = 1
REFUSED = 2
NOT_RECORDS = 3

# How many numbers a record of a run has: op, size, d, s, n.
RECORD = 5


class Processor:
    """What one list of calls is about."""

    def __init__(self):
        self.registers = [0] * REGISTERS
        self.flags = 0

    def low(self, r, width):
        """The number of W bits that a register has."""
        return cut(self.registers[r], width)

    def write(self, r, width, number):
        """The register's other bits stay for 8 and 16 bits, and are 0 for 32."""
        others = self.registers[r] - self.low(r, width) if width < 32 else 0
        self.registers[r] = others + cut(number, width)

    def operate(self, op, size, d, s, n):
        """What the call do answers."""
        if is_refused(op, size, d, s, n):
            return REFUSED
        return DONE if perform(self, op, 8 * size, d, s, n) else TRAPPED


def answer_set(processor, r, v):
    if not is_place(r):
        return [REFUSED]
    processor.registers[r] = v
    return [DONE]


def answer_get(processor, r):
    if not is_place(r):
        return [REFUSED]
    return [DONE, processor.registers[r]]


def answer_put(processor, number):
    processor.flags = number & ALL_FLAGS
    return [DONE]


def answer_holds(processor, condition):
    if not is_condition(condition):
        return [REFUSED]
    return [1 if condition_holds(processor.flags, condition) else 0]


def answer_run(processor, prog):
    if len(prog) % RECORD != 0:
        return [NOT_RECORDS]
    done = 0
    for at in range(0, len(prog), RECORD):
        answer = processor.operate(prog[at], prog[at + 1], prog[at + 2], prog[at + 3], prog[at + 4])
        if answer != DONE:
            return [answer, done]
        done += 1
    return [DONE, done]


def answer_call(processor, call, given):
    """Makes one call, with the numbers that stand behind it, and gives back its answer, a new list."""
    if call == SET:
        return answer_set(processor, given[0], given[1])
    if call == GET:
        return answer_get(processor, given[0])
    if call == FLAGS:
        return [processor.flags]
    if call == PUT:
        return answer_put(processor, given[0])
    if call == HOLDS:
        return answer_holds(processor, given[0])
    if call == DO:
        return [processor.operate(given[0], given[1], given[2], given[3], given[4])]
    return answer_run(processor, given[1:])


def call_end(calls, at):
    """Where the call that begins at a place ends: the place behind its last number."""
    end = at + 1 + ARGUMENTS[calls[at]]
    if calls[at] == RUN:
        return end + calls[at + 1]
    return end


def answers(calls):
    """Gives back, for each call on a new processor, how many numbers are answered, then these."""
    processor = Processor()
    result = []
    at = 0
    while at < len(calls):
        end = call_end(calls, at)
        answer = answer_call(processor, calls[at], calls[at + 1:end])
        result.append(len(answer))
        result.extend(answer)
        at = end
    return result

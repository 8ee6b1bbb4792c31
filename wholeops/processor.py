"""One processor, sixteen registers and six flags, and the calls on it."""

SET = 0
GET = 1
FLAGS = 2
PUT = 3

# By the call's number: how many whole numbers stand behind it.
ARGUMENTS = (2, 1, 0, 1)

DONE = 0
REFUSED = 2

REGISTERS = 16

# C 1, P 4, A 16, Z 64, S 128 and O 2048 together: no other bit stands for anything.
ALL_FLAGS = 2261


def is_place(r):
    """Whether there is a register r; a list's own index would take -1 to -16 too."""
    return 0 <= r < REGISTERS


class Processor:
    """What one list of calls is about. Its methods give back a call's answer, a new list."""

    def __init__(self):
        self.registers = [0] * REGISTERS
        self.flags = 0

    def set_number(self, r, v):
        if not is_place(r):
            return [REFUSED]
        self.registers[r] = v
        return [DONE]

    def get_number(self, r):
        if not is_place(r):
            return [REFUSED]
        return [DONE, self.registers[r]]

    def get_flags(self):
        return [self.flags]

    def put_flags(self, number):
        self.flags = number & ALL_FLAGS
        return [DONE]


def answer_call(processor, call, arguments):
    """Makes one call and gives back its answer."""
    if call == SET:
        return processor.set_number(arguments[0], arguments[1])
    if call == GET:
        return processor.get_number(arguments[0])
    if call == FLAGS:
        return processor.get_flags()
    return processor.put_flags(arguments[0])


def answers(calls):
    """Gives back, for each call on a new processor, how many numbers are answered, then these."""
    processor = Processor()
    result = []
    at = 0
    while at < len(calls):
        call = calls[at]
        end = at + 1 + ARGUMENTS[call]
        answer = answer_call(processor, call, calls[at + 1:end])
        result.append(len(answer))
        result.extend(answer)
        at = end
    return result

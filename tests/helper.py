"""What several tests need: calls written one by one, flags written by their letters, whole states compared."""

from wholeops.processor import answers

SET, GET, FLAGS, PUT, HOLDS, DO, RUN = range(7)
LOWEST_INT, HIGHEST_INT = -2147483648, 2147483647
TOP = 18446744073709551615
PLACES = range(16)
WRONG_PLACES = (-1, 16, LOWEST_INT, HIGHEST_INT, -2, -15, -16, -17, 17, 31, 32, 255, 256, 65536)
SIZES = (1, 2, 4, 8)
WRONG_SIZES = (0, 3, 5, 6, 7, 9, 16, -1, -8, 32, 64, LOWEST_INT, HIGHEST_INT)
SIX_FLAGS = (1, 4, 16, 64, 128, 2048)
ALL_FLAGS = 2261
LETTERS = {"C": 1, "P": 4, "A": 16, "Z": 64, "S": 128, "O": 2048}

# A different number in each register, each with ones and zeros in every part.
FILLED = [0x8123456789ABCDEF ^ (0x0F1E2D3C4B5A6978 * (place + 1) & TOP) for place in PLACES]


def flags(letters):
    """The number of the flags that the letters name."""
    return sum(LETTERS[letter] for letter in letters)


def every_choice_of_flags():
    return [sum(SIX_FLAGS[place] for place in range(6) if choice >> place & 1) for choice in range(64)]


def joined(calls):
    return [number for call in calls for number in call]


def each(calls):
    """The answers of a list of calls, each a list of its own."""
    given = answers(joined(calls))
    split = []
    at = 0
    while at < len(given):
        end = at + 1 + given[at]
        split.append(given[at + 1:end])
        at = end
    return split


def all_registers():
    return [[GET, r] for r in PLACES]


def run_of(*records):
    """The call run of records of five numbers."""
    prog = joined(records)
    return [RUN, len(prog)] + prog


def after(registers, before, calls):
    """The answers of the calls, begun with these registers and flags; and the registers and flags afterwards."""
    begun = [[SET, r, registers[r]] for r in PLACES] + [[PUT, before]]
    told = each(begun + calls + all_registers() + [[FLAGS]])
    assert told[:17] == [[0]] * 17
    return told[17:-17], [answer[1] for answer in told[-17:-1]], told[-1][0]


def changed(registers, new):
    """The registers, with the numbers of a dict in some of them."""
    return [new.get(r, registers[r]) for r in PLACES]

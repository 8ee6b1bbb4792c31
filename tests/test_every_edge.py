"""Every operation at every edge, against a second way to work it out: bit by bit and step by step.

The model below has been written from the document for these tests. It keeps numbers as lists of bits, the lowest
first, carries from bit to bit, and shifts and turns one place at a time, k times.
"""

import random
import unittest

from helper import (ALL_FLAGS, DO, FLAGS, GET, HIGHEST_INT, HOLDS, LETTERS, LOWEST_INT, PLACES, PUT, RUN, SET, SIZES,
                    TOP, each)


def bits_of(number, width):
    return [number >> place & 1 for place in range(width)]


def number_of(bits):
    return sum(bit << place for place, bit in enumerate(bits))


def added(x, y, carry):
    """The bits of the sum, and the carry out of each place."""
    result, carries = [], []
    for one, other in zip(x, y):
        result.append(one ^ other ^ carry)
        carry = int(one + other + carry >= 2)
        carries.append(carry)
    return result, carries


def negated(x):
    return added([1 - bit for bit in x], [0] * len(x), 1)[0]


def at_least(x, y):
    """Whether the bits x, as a number without a sign, are at least y."""
    for one, other in zip(reversed(x), reversed(y)):
        if one != other:
            return one > other
    return True


def divided(number, divisor):
    """Long division, from the highest bit down: the quotient, as long as the number, and the rest."""
    rest = [0] * len(number)
    quotient = []
    wide = divisor + [0] * (len(number) - len(divisor))
    for bit in reversed(number):
        rest = [bit] + rest[:-1]
        fits = at_least(rest, wide)
        if fits:
            rest = added(rest, negated(wide), 0)[0]
        quotient.insert(0, int(fits))
    return quotient, rest


class Model:
    def __init__(self):
        self.registers = [[0] * 64 for place in PLACES]
        self.flag = dict.fromkeys(LETTERS, 0)

    # The calls.

    def answer(self, call):
        kind, given = call[0], call[1:]
        if kind == SET:
            if given[0] not in PLACES:
                return [2]
            self.registers[given[0]] = bits_of(given[1], 64)
            return [0]
        if kind == GET:
            return [0, number_of(self.registers[given[0]])] if given[0] in PLACES else [2]
        if kind == FLAGS:
            return [sum(LETTERS[letter] for letter in LETTERS if self.flag[letter])]
        if kind == PUT:
            for letter, number in LETTERS.items():
                self.flag[letter] = given[0] // number % 2
            return [0]
        if kind == HOLDS:
            return [self.holds(given[0])] if given[0] in range(16) else [2]
        if kind == DO:
            return [self.do(*given)]
        return self.run(given[1:])

    def run(self, prog):
        if len(prog) not in range(0, 401, 5):
            return [3]
        done, answer = 0, 0
        while prog:
            record, prog = prog[:5], prog[5:]
            answer = self.do(*record)
            if answer != 0:
                break
            done += 1
        return [answer, done]

    def holds(self, condition):
        c, p, z, s, o = (self.flag[letter] for letter in "CPZSO")
        even = [o, c, z, c | z, s, p, s ^ o, z | (s ^ o)][condition // 2]
        return 1 - even if condition % 2 else even

    def do(self, op, size, d, s, n):
        if op not in range(43) or size not in SIZES or d not in PLACES or s not in PLACES:
            return 2
        self.op, self.width, self.d, self.s, self.n = op, 8 * size, d, s, n
        self.x, self.y = self.read(d), self.read(s)
        return self.point()() or 0

    def point(self):
        for last, point in ((5, self.point_1), (9, self.point_2), (13, self.point_3), (16, self.point_5),
                            (18, self.point_6), (20, self.point_7), (22, self.point_8), (24, self.point_9),
                            (26, self.point_10), (29, self.point_11), (30, self.point_12), (34, self.point_13),
                            (36, self.point_14), (39, self.point_15), (42, self.point_16)):
            if self.op <= last:
                return point

    # What the points share.

    def read(self, r):
        return self.registers[r][:self.width]

    def write(self, r, bits):
        above = self.registers[r][self.width:]
        self.registers[r] = bits + ([0] * 32 if self.width == 32 else above)

    def flags_of(self, result):
        self.flag["Z"] = int(1 not in result)
        self.flag["S"] = result[-1]
        self.flag["P"] = int(result[:8].count(1) in (0, 2, 4, 6, 8))

    def sum(self, x, y, carry):
        result, carries = added(x, y, carry)
        self.flag["C"], self.flag["A"] = carries[-1], carries[3]
        self.flag["O"] = carries[-1] ^ carries[-2]
        self.flags_of(result)
        return result

    def difference(self, x, y, borrow):
        # x - y - borrow is x + not y + 1 - borrow: a carry out there is no borrow here.
        result = self.sum(x, [1 - bit for bit in y], 1 - borrow)
        self.flag["C"] ^= 1
        self.flag["A"] ^= 1
        return result

    def count(self):
        return self.n & (63 if self.width == 64 else 31)

    # The points of the document.

    def point_1(self):
        carry = self.flag["C"] if self.op in (2, 4) else 0
        if self.op == 0:
            self.write(self.d, self.y)
        elif self.op in (1, 2):
            self.write(self.d, self.sum(self.x, self.y, carry))
        else:
            result = self.difference(self.x, self.y, carry)
            if self.op != 5:
                self.write(self.d, result)

    def point_2(self):
        truth = {6: (0, 0, 0, 1), 7: (0, 1, 1, 1), 8: (0, 1, 1, 0), 9: (0, 0, 0, 1)}[self.op]
        result = [truth[2 * one + other] for one, other in zip(self.x, self.y)]
        self.flag.update(C=0, O=0, A=0)
        self.flags_of(result)
        if self.op != 9:
            self.write(self.d, result)

    def point_3(self):
        carry = self.flag["C"]
        one = bits_of(1, self.width)
        if self.op == 13:
            result = [1 - bit for bit in self.x]
        elif self.op == 12:
            result = self.difference([0] * self.width, self.x, 0)
        else:
            result = self.sum(self.x, one, 0) if self.op == 10 else self.difference(self.x, one, 0)
            self.flag["C"] = carry
        self.write(self.d, result)

    def point_5(self):
        if self.count() == 0:
            return
        result, out = self.x, 0
        for step in range(self.count()):
            if self.op == 14:
                result, out = [0] + result[:-1], result[-1]
            else:
                result, out = result[1:] + [result[-1] if self.op == 16 else 0], result[0]
        self.flags_of(result)
        self.flag.update(C=out, A=0, O={14: result[-1] ^ out, 15: self.x[-1], 16: 0}[self.op])
        self.write(self.d, result)

    def point_6(self):
        if self.count() == 0:
            return
        result = self.x
        for step in range(self.count()):
            result = result[-1:] + result[:-1] if self.op == 17 else result[1:] + result[:1]
        if self.op == 17:
            self.flag.update(C=result[0], O=result[-1] ^ result[0])
        else:
            self.flag.update(C=result[-1], O=result[-1] ^ result[-2])
        self.write(self.d, result)

    def point_7(self):
        if self.count() in range(0, 65, self.width + 1):
            return
        result = self.x + [self.flag["C"]]
        for step in range(self.count()):
            result = result[-1:] + result[:-1] if self.op == 19 else result[1:] + result[:1]
        carry = result.pop()
        self.flag.update(C=carry, O=result[-1] ^ (carry if self.op == 19 else result[-2]))
        self.write(self.d, result)

    def point_8(self):
        if self.width == 8 or self.count() > self.width:
            return 2
        if self.count() == 0:
            return
        result, source, out = self.x, self.y, 0
        for step in range(self.count()):
            if self.op == 21:
                out, result, source = result[-1], source[-1:] + result[:-1], [0] + source[:-1]
            else:
                out, result, source = result[0], result[1:] + source[:1], source[1:] + [0]
        self.flags_of(result)
        self.flag.update(C=out, A=0, O=result[-1] ^ self.x[-1])
        self.write(self.d, result)

    def point_9(self):
        above = [0] * self.width
        x, y = ([*bits, *(bits[-1:] * self.width if self.op == 24 else above)] for bits in (self.x, self.y))
        product = [0] * (2 * self.width)
        for place in range(2 * self.width):
            if y[place]:
                product = added(product, ([0] * place + x)[:2 * self.width], 0)[0]
        low, high = product[:self.width], product[self.width:]
        self.write(self.d, low)
        self.write(self.s, high)
        self.flags_of(low)
        too_long = int(high != (low[-1:] * self.width if self.op == 24 else above))
        self.flag.update(C=too_long, O=too_long, A=0)

    def point_10(self):
        if self.n not in PLACES:
            return 2
        number, divisor = self.x + self.y, self.read(self.n)
        if 1 not in divisor:
            return 1
        below = number[-1] if self.op == 26 else 0
        opposite = below ^ divisor[-1] if self.op == 26 else 0
        # One bit more, so that what's lowest with a sign has its opposite, too.
        size = negated(number + [1]) if below else number + [0]
        by = negated(divisor) if self.op == 26 and divisor[-1] else divisor
        quotient, rest = divided(size, by)
        quotient = negated(quotient) if opposite else quotient
        rest = negated(rest) if below else rest
        low, above = quotient[:self.width], quotient[self.width:]
        if set(above) != {low[-1] if self.op == 26 else 0}:
            return 1
        self.write(self.d, low)
        self.write(self.s, rest[:self.width])

    def point_11(self):
        if self.op == 29:
            self.write(self.d, bits_of(self.y.count(1), self.width))
            self.flag = dict.fromkeys(LETTERS, 0)
            self.flag["Z"] = int(1 not in self.y)
            return
        self.flag["Z"] = int(1 not in self.y)
        if 1 in self.y:
            lowest, from_above = self.y.index(1), self.y[::-1].index(1)
            self.write(self.d, bits_of(lowest if self.op == 27 else self.width - 1 - from_above, self.width))

    def point_12(self):
        if self.width < 32:
            return 2
        pieces = [self.x[at:at + 8] for at in range(0, self.width, 8)]
        self.write(self.d, sum(reversed(pieces), []))

    def point_13(self):
        place = self.n & (self.width - 1)
        self.flag["C"] = self.x[place]
        if self.op > 31:
            result = list(self.x)
            result[place] = {32: 1, 33: 0, 34: 1 - self.x[place]}[self.op]
            self.write(self.d, result)

    def point_14(self):
        if (self.width == 8) != (self.op == 36) or self.n not in range(16):
            return 2
        holds = self.holds(self.n)
        if self.op == 36:
            self.write(self.d, bits_of(holds, 8))
        elif holds:
            self.write(self.d, self.y)

    def point_15(self):
        if self.op == 37:
            self.write(self.d, self.y)
            self.write(self.s, self.x)
        elif self.op == 38:
            result = self.sum(self.x, self.y, 0)
            self.write(self.s, self.x)
            self.write(self.d, result)
        else:
            z = self.read(0)
            self.difference(z, self.x, 0)
            if z == self.x:
                self.write(self.d, self.y)
            else:
                self.write(0, self.x)

    def point_16(self):
        if self.n not in (1, 2, 4) or 8 * self.n >= self.width:
            return 2
        low = self.y[:8 * self.n]
        fill = 0 if self.op == 40 else low[-1]
        result = low + [fill] * (self.width - len(low))
        self.write(self.d, result)
        if self.op == 42:
            self.flag.update(A=0, C=0, O=0)
            self.flags_of(result)


def edges(size):
    """0, 1, the highest number, the highest bit alone, the number below it, and some beside these."""
    top, half = 256 ** size - 1, 128 * 256 ** (size - 1)
    return [0, 1, top, half, half - 1, 2, 0x0F, 0x10, half + 1, top - 1, 0x5A5A5A5A5A5A5A5A % (top + 1)]


def few_edges(size):
    return [edges(size)[place] for place in (0, 1, 2, 3, 10)]


def counts(size):
    width = 8 * size
    return sorted({0, 1, 2, 7, 8, 9, 15, 16, 17, 18, 27, 31, 32, 33, 63, 64, 65, width - 1, width, width + 1, 255,
                   -1, -2, -15, -16, -31, -32, -33, -63, -64, -65, LOWEST_INT, LOWEST_INT + 1,
                   HIGHEST_INT - 1, HIGHEST_INT})


BEGUN = (0, ALL_FLAGS, 1, ALL_FLAGS - 1)
ABOVE = (0xA5C3A5C3A5C3A5C3, 0x5A3C5A3C5A3C5A3C, TOP)


def full(size, low, which):
    return ABOVE[which] - ABOVE[which] % 256 ** size + low


class EveryEdge(unittest.TestCase):
    def setUp(self):
        self.calls = []
        self.start = [[SET, place, ABOVE[0] ^ (place * 0x1111111111111111)] for place in PLACES]
        self.ended = [[GET, place] for place in PLACES]

    def compare(self, calls):
        model = Model()
        expected = [model.answer(call) for call in calls]
        told = each(calls)
        if told != expected:
            first = [told[at] == expected[at] for at in range(len(calls))].index(False)
            self.fail(f"{calls[:first + 1]} told {told[first]} and not {expected[first]}")

    def case(self, registers, before, record):
        """One operation, with numbers in some registers; as many as can be are put together in one list of calls."""
        sets = [[SET, r, number] for r, number in registers.items()]
        gets = [[GET, r] for r in registers]
        new = sets + [[PUT, before], [DO] + record] + gets + [[FLAGS]]
        if len(self.start) + len(self.calls) + len(new) + len(self.ended) > 80:
            self.finish()
        self.calls += new

    def finish(self):
        self.compare(self.start + self.calls + self.ended)
        self.calls = []

    def test_two_registers(self):
        for op in [*range(14), 23, 24, 27, 28, 29, 30, 37, 38]:
            for size in SIZES:
                for x in edges(size):
                    for y in edges(size):
                        for before in BEGUN:
                            self.case({3: full(size, x, 0), 5: full(size, y, 1)}, before, [op, size, 3, 5, 0])
        self.finish()

    def test_the_same_register_and_register_0(self):
        for op in [*range(25), *range(27, 43)]:
            for size in SIZES:
                for x in edges(size):
                    for d, s in ((3, 3), (0, 0), (0, 15), (15, 0)):
                        for n in (1, 2, 4):
                            registers = {d: full(size, x, 0), s: full(size, x, 1)}
                            self.case(registers, BEGUN[n % 2], [op, size, d, s, n])
        self.finish()

    def test_shifts_and_turns(self):
        for op in range(14, 21):
            for size in SIZES:
                for x in few_edges(size):
                    for n in counts(size):
                        for before in BEGUN:
                            self.case({3: full(size, x, 0), 5: ABOVE[1]}, before, [op, size, 3, 5, n])
        self.finish()

    def test_filled_shifts(self):
        for op in (21, 22):
            for size in SIZES:
                for x in few_edges(size):
                    for y in few_edges(size):
                        for n in counts(size):
                            self.case({3: full(size, x, 0), 5: full(size, y, 1)}, BEGUN[n % 2], [op, size, 3, 5, n])
        self.finish()

    def test_each_count(self):
        for op in range(14, 23):
            for size in SIZES:
                for n in range(-5, 70):
                    x = 0x9D3A5C7E1B246F81 % 256 ** size
                    for before in (0, 1):
                        self.case({3: full(size, x, 2), 5: 0x6B1F48E2D7953CA0}, before, [op, size, 3, 5, n])
        self.finish()

    def test_quotients(self):
        for op in (25, 26):
            for size in SIZES:
                for low in few_edges(size) + [256 ** size - 7]:
                    for high in edges(size)[:6] + [256 ** size - 2]:
                        for divisor in edges(size):
                            registers = {3: full(size, low, 0), 5: full(size, high, 1), 7: full(size, divisor, 2)}
                            self.case(registers, BEGUN[divisor % 2], [op, size, 3, 5, 7])
        self.finish()

    def test_quotients_of_the_same_registers(self):
        for op in (25, 26):
            for size in SIZES:
                for x in edges(size):
                    for y in edges(size):
                        for d, s, n in ((3, 5, 3), (3, 5, 5), (3, 3, 5), (3, 3, 3), (0, 3, 0)):
                            registers = {r: full(size, number, 0) for r, number in ((3, x), (5, y), (0, y))}
                            self.case(registers, ALL_FLAGS, [op, size, d, s, n])
        self.finish()

    def test_bits(self):
        for op in (31, 32, 33, 34):
            for size in SIZES:
                for x in few_edges(size):
                    for n in counts(size):
                        self.case({3: full(size, x, 0)}, BEGUN[n % 4], [op, size, 3, 5, n])
        self.finish()

    def test_conditions_and_widths(self):
        for op in (35, 36, 40, 41, 42):
            for size in SIZES:
                for y in edges(size) + [0x80, 0x7F, 0x8000 % 256 ** size, 0x80000000 % 256 ** size]:
                    for n in range(-1, 17):
                        for before in BEGUN + (64, 128, 2048, 2176):
                            self.case({3: ABOVE[0], 5: full(size, y, 1)}, before, [op, size, 3, 5, n])
        self.finish()

    def test_compare_and_exchange(self):
        for size in SIZES:
            for z in edges(size):
                for x in edges(size):
                    for before in BEGUN:
                        self.case({0: full(size, z, 0), 3: full(size, x, 1), 5: 0x0123456789ABCDEF}, before,
                                  [39, size, 3, 5, 0])
        self.finish()

    def test_long_lists_of_all_calls(self):
        # The same each time: it begins with a written number.
        drawn = random.Random(20)
        for turn in range(300):
            calls = [[SET, place, drawn.choice(edges(8) + [drawn.randrange(TOP + 1)])] for place in PLACES]
            while len(calls) < 80:
                calls.append(self.drawn_call(drawn))
            self.compare(calls)

    def drawn_record(self, drawn):
        record = [drawn.randrange(43), drawn.choice(SIZES), drawn.randrange(16), drawn.randrange(16),
                  drawn.choice([drawn.randrange(5), drawn.randrange(16), drawn.randrange(256)])]
        if drawn.randrange(30) == 0:
            record[drawn.randrange(5)] = drawn.choice([16, 43, 3, 255])
        return record

    def drawn_call(self, drawn):
        kind = drawn.randrange(12)
        if kind == SET:
            return [SET, drawn.randrange(-1, 17), drawn.randrange(TOP + 1)]
        if kind == PUT:
            return [PUT, drawn.randrange(4294967296)]
        if kind == FLAGS:
            return [FLAGS]
        if kind == HOLDS:
            return [HOLDS, drawn.randrange(-1, 17)]
        if kind == RUN:
            prog = sum([self.drawn_record(drawn) for step in range(drawn.randrange(30))], [])
            if drawn.randrange(8) == 0:
                prog.append(1)
            return [RUN, len(prog)] + prog
        if kind == GET:
            return [GET, drawn.randrange(-1, 17)]
        return [DO] + self.drawn_record(drawn)


if __name__ == "__main__":
    unittest.main()

"""The call do where it answers 2, or 1: what is refused, what traps, and that nothing has changed then."""

import unittest

from helper import (ALL_FLAGS, DO, FILLED, HIGHEST_INT, LOWEST_INT, SIZES, WRONG_PLACES, WRONG_SIZES, after, changed,
                    flags)

OPERATIONS = range(43)
WRONG_OPERATIONS = (-1, 43, -2, -42, -43, 44, 63, 64, 255, 256, 65536, LOWEST_INT, HIGHEST_INT)


def allowed(op):
    """A size and an n with which the operation is not refused."""
    if op == 36:
        return 1, 3
    if op >= 40:
        return 8, 2
    return 8, 3


class Refused(unittest.TestCase):
    def check(self, calls, answer=2):
        """Each of the calls answers so, and nothing has changed; 40 at a time, since a list has at most 80 calls."""
        for at in range(0, len(calls), 40):
            some = calls[at:at + 40]
            for before in (0, ALL_FLAGS, flags("CS"), flags("PAZO")):
                told, registers, flags_after = after(FILLED, before, some)
                self.assertEqual(list(zip(some, told)), [(call, [answer]) for call in some])
                self.assertEqual((registers, flags_after), (FILLED, before))

    def check_done(self, calls):
        for call in calls:
            self.assertEqual((call, after(FILLED, 0, [call])[0]), (call, [[0]]))

    def test_an_operation_that_is_not(self):
        self.check([[DO, op, size, 1, 2, n] for op in WRONG_OPERATIONS for size in SIZES for n in (0, 1, 2)])

    def test_each_operation_is(self):
        for op in OPERATIONS:
            size, n = allowed(op)
            # 3 / 5 with 0 above it: a quotient that fits.
            registers = changed(FILLED, {1: 3, 2: 0, 3: 5})
            self.assertEqual((op, after(registers, 0, [[DO, op, size, 1, 2, n]])[0]), (op, [[0]]))

    def test_a_size_that_is_not(self):
        for op in OPERATIONS:
            self.check([[DO, op, size, 1, 2, allowed(op)[1]] for size in WRONG_SIZES])

    def test_a_register_d_that_is_not(self):
        for op in OPERATIONS:
            size, n = allowed(op)
            self.check([[DO, op, size, d, 2, n] for d in WRONG_PLACES])

    def test_a_register_s_that_is_not_used_or_not(self):
        for op in OPERATIONS:
            size, n = allowed(op)
            self.check([[DO, op, size, 1, s, n] for s in WRONG_PLACES])

    def test_a_wrong_register_where_a_shift_goes_by_nothing(self):
        for op in range(14, 23):
            self.check([[DO, op, 8, d, s, n] for d, s in ((16, 0), (0, 16), (-1, 0), (0, -1)) for n in (0, 64)])

    def test_filled_shifts(self):
        for op in (21, 22):
            self.check([[DO, op, 1, 1, 2, n] for n in (0, 1, 7, 8, 9, 16, 31, 32, 33, -1, LOWEST_INT, HIGHEST_INT)])
            # The n modulo 32 is above 16.
            self.check([[DO, op, 2, 1, 2, n]
                        for n in (17, 18, 30, 31, 49, 63, 81, 127, -1, -2, -15, -33, -47, HIGHEST_INT)])
            self.check_done([[DO, op, 2, 1, 2, n] for n in (0, 1, 15, 16, 32, 33, 47, 48, 64, -16, -17, -31, -32,
                                                            LOWEST_INT)])
            self.check_done([[DO, op, size, 1, 2, n] for size in (4, 8) for n in (
                0, 1, 16, 17, 31, 32, 33, 63, 64, 65, -1, LOWEST_INT, HIGHEST_INT)])

    def test_other_shifts_refuse_no_n(self):
        self.check_done([[DO, op, size, 1, 2, n] for op in range(14, 21) for size in SIZES for n in (
            0, 1, 8, 9, 17, 31, 32, 33, 63, 64, 65, -1, LOWEST_INT, HIGHEST_INT)])

    def test_quotients_by_a_register_that_is_not(self):
        for op in (25, 26):
            self.check([[DO, op, size, 1, 2, n] for size in SIZES for n in WRONG_PLACES])

    def test_quotients_by_each_register(self):
        for op in (25, 26):
            for n in range(16):
                registers = changed([0] * 16, {n: 5})
                told, after_it, flags_after = after(registers, ALL_FLAGS, [[DO, op, 8, (n + 1) % 16, (n + 2) % 16, n]])
                self.assertEqual((told, after_it, flags_after), ([[0]], registers, ALL_FLAGS))

    def test_bytes_turned_round(self):
        self.check([[DO, 30, size, d, d, n] for size in (1, 2) for d in (0, 1, 15) for n in (0, 1, 4)])
        self.check_done([[DO, 30, size, 1, 2, n] for size in (4, 8) for n in (0, -1, LOWEST_INT, HIGHEST_INT)])

    def test_bits_refuse_no_n(self):
        self.check_done([[DO, op, size, 1, 2, n] for op in (31, 32, 33, 34) for size in SIZES for n in (
            0, 7, 8, 63, 64, -1, LOWEST_INT, HIGHEST_INT)])

    def test_moved_if(self):
        self.check([[DO, 35, 1, 1, 2, n] for n in range(-1, 17)])
        self.check([[DO, 35, size, 1, 2, n] for size in (2, 4, 8) for n in WRONG_PLACES])
        self.check_done([[DO, 35, size, 1, 2, n] for size in (2, 4, 8) for n in range(16)])

    def test_truth_of_a_condition(self):
        self.check([[DO, 36, size, 1, 2, n] for size in (2, 4, 8) for n in range(-1, 17)])
        self.check([[DO, 36, 1, 1, 2, n] for n in WRONG_PLACES])
        self.check_done([[DO, 36, 1, 1, 2, n] for n in range(16)])

    def test_widened(self):
        below = {1: (), 2: (1,), 4: (1, 2), 8: (1, 2, 4)}
        tried = (0, 1, 2, 3, 4, 5, 6, 7, 8, 9, 16, -1, -2, -4, LOWEST_INT, HIGHEST_INT)
        for op in (40, 41, 42):
            for size in SIZES:
                self.check([[DO, op, size, 1, 2, n] for n in tried if n not in below[size]])
                self.check_done([[DO, op, size, 1, 2, n] for n in below[size]])

    def test_a_refusal_goes_before_a_trap(self):
        for registers in ([0] * 16, FILLED):
            for call in ([DO, 25, 8, 1, 2, 16], [DO, 26, 3, 1, 2, 3], [DO, 25, 1, 16, 2, 3], [DO, 26, 2, 1, -1, 3]):
                self.assertEqual(after(registers, 0, [call]), ([[2]], registers, 0))

    def test_the_calls_behind_one_are_made(self):
        told, registers, flags_after = after(
            [0] * 16, 0, [[DO, 43, 1, 0, 0, 0], [DO, 10, 1, 0, 0, 0], [DO, 25, 1, 0, 0, 1], [DO, 10, 1, 0, 0, 0]])
        self.assertEqual((told, registers, flags_after), ([[2], [0], [1], [0]], [2] + [0] * 15, 0))


class Traps(unittest.TestCase):
    def check(self, op, size, d, s, divisor):
        """Registers 3, 5 and 7, with ones above their W bits, are d, s and the divisor."""
        above = 18446744073709551616 - 256 ** size
        registers = changed(FILLED, {3: above + d, 5: above + s, 7: above + divisor})
        for before in (0, ALL_FLAGS):
            with self.subTest(op=op, size=size, d=d, s=s, divisor=divisor):
                self.assertEqual(after(registers, before, [[DO, op, size, 3, 5, 7]]), ([[1]], registers, before))

    def test_by_0(self):
        for op in (25, 26):
            for size in SIZES:
                top = 256 ** size - 1
                for d, s in ((0, 0), (1, 0), (0, 1), (top, top), (top, 0)):
                    self.check(op, size, d, s, 0)

    def test_a_quotient_that_just_does_not_fit(self):
        for size in SIZES:
            top = 256 ** size - 1
            # The high half is as great as the divisor.
            self.check(25, size, 0, 1, 1)
            self.check(25, size, 0, 2, 2)
            self.check(25, size, 0, top, top)
            self.check(25, size, top, top, 1)
            self.check(25, size, top, top, top)

    def test_a_quotient_with_a_sign_that_just_does_not_fit(self):
        for size in SIZES:
            top = 256 ** size - 1
            half = 128 * 256 ** (size - 1)
            self.check(26, size, half, 0, 1)          # half / 1
            self.check(26, size, half, top, top)      # -half / -1
            self.check(26, size, half - 1, top, 1)    # (-half - 1) / 1
            self.check(26, size, half + 1, 0, top)    # (half + 1) / -1
            self.check(26, size, 0, 1, 2)             # 2 half / 2
            self.check(26, size, 0, top, top - 1)     # -2 half / -2
            self.check(26, size, top - 1, top - 1, 2) # (-2 half - 2) / 2
            self.check(26, size, 2, 1, top - 1)       # (2 half + 2) / -2
            self.check(26, size, 0, half, top)        # the lowest number of all / -1
            self.check(26, size, 0, half, 1)
            self.check(26, size, top, half - 1, half) # the highest number / the lowest divisor

    def test_registers_that_are_the_same(self):
        for op in (25, 26):
            for size in SIZES:
                for number in (0, 1, 5):
                    registers = changed(FILLED, {3: number})
                    self.assertEqual(after(registers, ALL_FLAGS, [[DO, op, size, 3, 3, 3]]),
                                     ([[1]], registers, ALL_FLAGS))


if __name__ == "__main__":
    unittest.main()

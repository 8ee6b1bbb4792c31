"""The operations, row by row, with numbers worked out by hand from the document's points 1 to 16."""

import unittest

from helper import (ALL_FLAGS, DO, FILLED, HIGHEST_INT, LOWEST_INT, PLACES, SIZES, TOP, after, changed,
                    every_choice_of_flags, flags)

# Ones and zeros above the low bits of a register, to be seen to stay or to be gone.
ABOVE = 0xA5C3A5C3A5C3A5C3
D, S = 3, 5


def full(size, low):
    """A register's number with those low bytes and others above them."""
    return ABOVE - ABOVE % 256 ** size + low


def written(size, low):
    """What such a register has when low is written to it."""
    return full(size, low) if size in (1, 2) else low


class Rows(unittest.TestCase):
    def check(self, row, op, size, x, y, n, expected, set_flags, kept, befores, new_y=None):
        """Does one operation on registers 3 and 5, begun with each of the numbers of flags.

        expected is what 3 has then, None where it isn't written, new_y the same of 5; the flags of kept stay, and of
        the others those of set_flags are set.
        """
        registers = changed(FILLED, {D: full(size, x), S: full(size, y)})
        new = {}
        if expected is not None:
            new[D] = written(size, expected)
        if new_y is not None:
            new[S] = written(size, new_y)
        for before in befores:
            with self.subTest(op=op, row=row, before=before):
                told, registers_after, flags_after = after(registers, before, [[DO, op, size, D, S, n]])
                self.assertEqual(told, [[0]])
                self.assertEqual([hex(number) for number in registers_after],
                                 [hex(number) for number in changed(registers, new)])
                self.assertEqual(flags_after, before & flags(kept) | flags(set_flags))


ALL = (0, ALL_FLAGS, flags("CZO"), flags("PAS"))
WITHOUT_C = (0, flags("PAZSO"))
WITH_C = (flags("C"), ALL_FLAGS)

# size, x, y, sum, flags
SUMS = (
    (1, 0x00, 0x00, 0x00, "ZP"), (1, 0x00, 0x01, 0x01, ""), (1, 0x01, 0x01, 0x02, ""), (1, 0x01, 0x02, 0x03, "P"),
    (1, 0x0F, 0x01, 0x10, "A"), (1, 0x7F, 0x01, 0x80, "AOS"), (1, 0x80, 0x80, 0x00, "COZP"),
    (1, 0xFF, 0x01, 0x00, "CAZP"), (1, 0xFF, 0xFF, 0xFE, "CAS"), (1, 0x80, 0xFF, 0x7F, "CO"),
    (1, 0x7F, 0x7F, 0xFE, "AOS"), (1, 0x80, 0x7F, 0xFF, "SP"), (1, 0x80, 0x01, 0x81, "SP"),
    (1, 0xFE, 0x01, 0xFF, "SP"), (1, 0xFF, 0x00, 0xFF, "SP"), (1, 0x40, 0x40, 0x80, "OS"), (1, 0xC0, 0xC0, 0x80, "CS"),
    (2, 0x0000, 0x0000, 0x0000, "ZP"), (2, 0x00FF, 0x0001, 0x0100, "AP"), (2, 0x7FFF, 0x0001, 0x8000, "AOSP"),
    (2, 0x8000, 0x8000, 0x0000, "COZP"), (2, 0xFFFF, 0x0001, 0x0000, "CAZP"), (2, 0xFFFF, 0xFFFF, 0xFFFE, "CAS"),
    (2, 0x8000, 0xFFFF, 0x7FFF, "COP"), (2, 0x7FFF, 0x7FFF, 0xFFFE, "AOS"), (2, 0x0100, 0x0000, 0x0100, "P"),
    (4, 0x7FFFFFFF, 0x00000001, 0x80000000, "AOSP"), (4, 0xFFFFFFFF, 0x00000001, 0x00000000, "CAZP"),
    (4, 0x80000000, 0x80000000, 0x00000000, "COZP"), (4, 0x80000000, 0xFFFFFFFF, 0x7FFFFFFF, "COP"),
    (4, 0xFFFFFFFF, 0xFFFFFFFF, 0xFFFFFFFE, "CAS"), (4, 0x12345678, 0x0F0F0F0F, 0x21436587, "AP"),
    (4, 0x00000000, 0x00000000, 0x00000000, "ZP"),
    (8, 0x7FFFFFFFFFFFFFFF, 1, 0x8000000000000000, "AOSP"), (8, TOP, 1, 0, "CAZP"), (8, TOP, TOP, TOP - 1, "CAS"),
    (8, 0x8000000000000000, 0x8000000000000000, 0, "COZP"), (8, 0x8000000000000000, TOP, 0x7FFFFFFFFFFFFFFF, "COP"),
    (8, 0, 0, 0, "ZP"), (8, 0x00000000FFFFFFFF, 1, 0x0000000100000000, "AP"),
)
SUMS_WITH_CARRY = (
    (1, 0x00, 0x00, 0x01, ""), (1, 0x0F, 0x00, 0x10, "A"), (1, 0x0E, 0x00, 0x0F, "P"), (1, 0xFF, 0x00, 0x00, "CAZP"),
    (1, 0xFF, 0xFF, 0xFF, "CASP"), (1, 0x7F, 0x00, 0x80, "AOS"), (1, 0x7F, 0x80, 0x00, "CAZP"),
    (1, 0x80, 0x80, 0x01, "CO"), (1, 0x80, 0xFF, 0x80, "CAS"), (1, 0x7F, 0x7F, 0xFF, "AOSP"),
    (1, 0x00, 0x7F, 0x80, "AOS"),
    (2, 0xFFFF, 0x0000, 0x0000, "CAZP"), (2, 0x7FFF, 0x0000, 0x8000, "AOSP"), (2, 0x8000, 0xFFFF, 0x8000, "CASP"),
    (4, 0xFFFFFFFF, 0, 0, "CAZP"), (4, 0xFFFFFFFF, 0xFFFFFFFF, 0xFFFFFFFF, "CASP"),
    (4, 0x7FFFFFFF, 0, 0x80000000, "AOSP"),
    (8, TOP, 0, 0, "CAZP"), (8, TOP, TOP, TOP, "CASP"), (8, 0x7FFFFFFFFFFFFFFF, 0, 0x8000000000000000, "AOSP"),
    (8, 0x8000000000000000, TOP, 0x8000000000000000, "CASP"),
)
# size, x, y, what is left, flags
DIFFERENCES = (
    (1, 0x00, 0x00, 0x00, "ZP"), (1, 0x01, 0x01, 0x00, "ZP"), (1, 0x00, 0x01, 0xFF, "CASP"),
    (1, 0x10, 0x01, 0x0F, "AP"),
    (1, 0x80, 0x01, 0x7F, "AO"), (1, 0x7F, 0xFF, 0x80, "COS"), (1, 0x00, 0x80, 0x80, "COS"),
    (1, 0x80, 0x80, 0x00, "ZP"),
    (1, 0xFF, 0xFF, 0x00, "ZP"), (1, 0xFF, 0x01, 0xFE, "S"), (1, 0x01, 0xFF, 0x02, "CA"), (1, 0xFF, 0x7F, 0x80, "S"),
    (1, 0x7F, 0x80, 0xFF, "COSP"), (1, 0x80, 0x7F, 0x01, "AO"), (1, 0x00, 0xFF, 0x01, "CA"),
    (2, 0x0000, 0x0001, 0xFFFF, "CASP"), (2, 0x0100, 0x0001, 0x00FF, "AP"), (2, 0x8000, 0x0001, 0x7FFF, "AOP"),
    (2, 0x0000, 0x8000, 0x8000, "COSP"), (2, 0x7FFF, 0xFFFF, 0x8000, "COSP"), (2, 0x8000, 0x7FFF, 0x0001, "AO"),
    (2, 0xFFFF, 0xFFFF, 0x0000, "ZP"),
    (4, 0, 1, 0xFFFFFFFF, "CASP"), (4, 0x80000000, 1, 0x7FFFFFFF, "AOP"), (4, 0, 0x80000000, 0x80000000, "COSP"),
    (4, 0x7FFFFFFF, 0xFFFFFFFF, 0x80000000, "COSP"), (4, 0x80000000, 0x7FFFFFFF, 1, "AO"),
    (4, 0xFFFFFFFF, 0xFFFFFFFF, 0, "ZP"),
    (8, 0, 1, TOP, "CASP"), (8, 0x8000000000000000, 1, 0x7FFFFFFFFFFFFFFF, "AOP"),
    (8, 0, 0x8000000000000000, 0x8000000000000000, "COSP"), (8, 0x8000000000000000, 0x7FFFFFFFFFFFFFFF, 1, "AO"),
    (8, TOP, TOP, 0, "ZP"),
)
DIFFERENCES_WITH_BORROW = (
    (1, 0x00, 0x00, 0xFF, "CASP"), (1, 0x01, 0x00, 0x00, "ZP"), (1, 0x00, 0xFF, 0x00, "CAZP"),
    (1, 0x80, 0x00, 0x7F, "AO"),
    (1, 0x80, 0x7F, 0x00, "AOZP"), (1, 0x7F, 0xFF, 0x7F, "CA"), (1, 0xFF, 0xFF, 0xFF, "CASP"),
    (1, 0x10, 0x00, 0x0F, "AP"),
    (1, 0x7F, 0x80, 0xFE, "COS"), (1, 0x00, 0x80, 0x7F, "CA"),
    (2, 0x0000, 0x0000, 0xFFFF, "CASP"), (2, 0x0000, 0x8000, 0x7FFF, "CAP"), (2, 0x0000, 0xFFFF, 0x0000, "CAZP"),
    (4, 0, 0, 0xFFFFFFFF, "CASP"), (4, 0, 0x80000000, 0x7FFFFFFF, "CAP"), (4, 0, 0xFFFFFFFF, 0, "CAZP"),
    (8, 0, 0, TOP, "CASP"), (8, 0, 0x8000000000000000, 0x7FFFFFFFFFFFFFFF, "CAP"), (8, 0, TOP, 0, "CAZP"),
)


class Point1(Rows):
    def test_move_changes_no_flag(self):
        for size, x, y in ((1, 0x12, 0x00), (1, 0x12, 0x80), (1, 0, 0xFF), (2, 0x1234, 0x8000), (2, 1, 0),
                           (4, 0x12345678, 0xFFFFFFFF), (4, 1, 0), (8, 1, TOP), (8, TOP, 0)):
            self.check((size, x, y), 0, size, x, y, 0, y, "", "CPAZSO", every_choice_of_flags())

    def test_add(self):
        for row in SUMS:
            size, x, y, result, set_flags = row
            self.check(row, 1, size, x, y, 0, result, set_flags, "", ALL)
            self.check(row, 1, size, y, x, 0, result, set_flags, "", ALL)

    def test_add_with_carry(self):
        for rows, befores in ((SUMS, WITHOUT_C), (SUMS_WITH_CARRY, WITH_C)):
            for row in rows:
                size, x, y, result, set_flags = row
                self.check(row, 2, size, x, y, 0, result, set_flags, "", befores)

    def test_subtract(self):
        for row in DIFFERENCES:
            size, x, y, result, set_flags = row
            self.check(row, 3, size, x, y, 0, result, set_flags, "", ALL)

    def test_subtract_with_borrow(self):
        for rows, befores in ((DIFFERENCES, WITHOUT_C), (DIFFERENCES_WITH_BORROW, WITH_C)):
            for row in rows:
                size, x, y, result, set_flags = row
                self.check(row, 4, size, x, y, 0, result, set_flags, "", befores)

    def test_compare_does_not_write(self):
        for row in DIFFERENCES:
            size, x, y, result, set_flags = row
            self.check(row, 5, size, x, y, 0, None, set_flags, "", ALL)


class Point2(Rows):
    BOTH = ((1, 0xFF, 0x0F, 0x0F, "P"), (1, 0xFF, 0x80, 0x80, "S"), (1, 0xAA, 0x55, 0x00, "ZP"),
            (1, 0xFF, 0xFF, 0xFF, "SP"),
            (1, 0x7F, 0xFE, 0x7E, "P"), (1, 0x00, 0x00, 0x00, "ZP"), (1, 0x01, 0x01, 0x01, ""),
            (2, 0xFF00, 0x0F0F, 0x0F00, "P"), (2, 0x8001, 0x8001, 0x8001, "S"), (2, 0xFF00, 0x00FF, 0x0000, "ZP"),
            (4, 0xFFFFFFFF, 0x80000000, 0x80000000, "SP"), (4, 0xFFFF0000, 0x0000FFFF, 0, "ZP"),
            (8, TOP, 0x8000000000000001, 0x8000000000000001, "S"), (8, 0xFFFFFFFF00000000, 0xFFFFFFFF, 0, "ZP"))

    def test_and(self):
        for row in self.BOTH:
            size, x, y, result, set_flags = row
            self.check(row, 6, size, x, y, 0, result, set_flags, "", ALL)

    def test_or(self):
        for row in ((1, 0xAA, 0x55, 0xFF, "SP"), (1, 0, 0, 0, "ZP"), (1, 0x80, 0x01, 0x81, "SP"), (1, 1, 2, 3, "P"),
                    (1, 0, 1, 1, ""), (1, 0x7F, 0x80, 0xFF, "SP"), (1, 0x81, 0x80, 0x81, "SP"),
                    (1, 0x80, 0x80, 0x80, "S"),
                    (2, 0x8000, 0x0001, 0x8001, "S"), (2, 0, 0, 0, "ZP"),
                    (2, 0x7FFF, 0x0100, 0x7FFF, "P"), (4, 0xFFFF0000, 0x0000FFFF, 0xFFFFFFFF, "SP"), (4, 0, 0, 0, "ZP"),
                    (8, 0x8000000000000000, 1, 0x8000000000000001, "S"), (8, 0, 0, 0, "ZP")):
            size, x, y, result, set_flags = row
            self.check(row, 7, size, x, y, 0, result, set_flags, "", ALL)

    def test_exclusive_or(self):
        for row in ((1, 0xFF, 0xFF, 0, "ZP"), (1, 0xFF, 0x7F, 0x80, "S"), (1, 0x0F, 0x1F, 0x10, ""),
                    (1, 0xAA, 0x55, 0xFF, "SP"), (2, 0xFFFF, 0x7FFE, 0x8001, "S"), (2, 0x1234, 0x1234, 0, "ZP"),
                    (4, 0xFFFFFFFF, 0x7FFFFFFF, 0x80000000, "SP"), (4, 0x12345678, 0x12345678, 0, "ZP"),
                    (8, TOP, 0x7FFFFFFFFFFFFFFF, 0x8000000000000000, "SP"), (8, TOP, TOP, 0, "ZP")):
            size, x, y, result, set_flags = row
            self.check(row, 8, size, x, y, 0, result, set_flags, "", ALL)

    def test_test_does_not_write(self):
        for row in self.BOTH:
            size, x, y, result, set_flags = row
            self.check(row, 9, size, x, y, 0, None, set_flags, "", ALL)


class Point3(Rows):
    def check_rows(self, op, kept, rows):
        for row in rows:
            size, x, result, set_flags = row
            self.check(row, op, size, x, 0x77, 0, result, set_flags, kept, ALL)

    def test_one_more_leaves_C(self):
        self.check_rows(10, "C", (
            (1, 0x00, 0x01, ""), (1, 0x0F, 0x10, "A"), (1, 0x7F, 0x80, "AOS"), (1, 0xFF, 0x00, "AZP"),
            (1, 0x80, 0x81, "SP"),
            (1, 0xFE, 0xFF, "SP"), (2, 0x00FF, 0x0100, "AP"), (2, 0x7FFF, 0x8000, "AOSP"), (2, 0xFFFF, 0, "AZP"),
            (4, 0x7FFFFFFF, 0x80000000, "AOSP"), (4, 0xFFFFFFFF, 0, "AZP"), (4, 0, 1, ""),
            (8, 0x7FFFFFFFFFFFFFFF, 0x8000000000000000, "AOSP"), (8, TOP, 0, "AZP"), (8, 0, 1, "")))

    def test_one_less_leaves_C(self):
        self.check_rows(11, "C", (
            (1, 0x00, 0xFF, "ASP"), (1, 0x01, 0x00, "ZP"), (1, 0x10, 0x0F, "AP"), (1, 0x80, 0x7F, "AO"),
            (1, 0xFF, 0xFE, "S"),
            (2, 0x0000, 0xFFFF, "ASP"), (2, 0x8000, 0x7FFF, "AOP"), (2, 0x0100, 0x00FF, "AP"), (2, 1, 0, "ZP"),
            (4, 0, 0xFFFFFFFF, "ASP"), (4, 0x80000000, 0x7FFFFFFF, "AOP"), (4, 1, 0, "ZP"),
            (8, 0, TOP, "ASP"), (8, 0x8000000000000000, 0x7FFFFFFFFFFFFFFF, "AOP"), (8, 1, 0, "ZP")))

    def test_negate(self):
        self.check_rows(12, "", (
            (1, 0x00, 0x00, "ZP"), (1, 0x01, 0xFF, "CASP"), (1, 0x80, 0x80, "COS"), (1, 0x7F, 0x81, "CASP"),
            (1, 0xFF, 0x01, "CA"), (1, 0x10, 0xF0, "CSP"), (2, 0, 0, "ZP"), (2, 0x8000, 0x8000, "COSP"),
            (2, 0x0001, 0xFFFF, "CASP"), (4, 0, 0, "ZP"), (4, 0x80000000, 0x80000000, "COSP"),
            (4, 1, 0xFFFFFFFF, "CASP"),
            (8, 0, 0, "ZP"), (8, 0x8000000000000000, 0x8000000000000000, "COSP"), (8, 1, TOP, "CASP"),
            (8, TOP, 1, "CA")))

    def test_not_changes_no_flag(self):
        for row in ((1, 0x00, 0xFF), (1, 0xFF, 0x00), (1, 0x0F, 0xF0), (2, 0x1234, 0xEDCB), (2, 0xFFFF, 0),
                    (4, 0x12345678, 0xEDCBA987), (4, 0, 0xFFFFFFFF), (8, 0x0123456789ABCDEF, 0xFEDCBA9876543210),
                    (8, TOP, 0), (8, 0, TOP)):
            size, x, result = row
            self.check(row, 13, size, x, 0, 0, result, "", "CPAZSO", every_choice_of_flags())


class Point4(Rows):
    def test_by_nothing_nothing_changes(self):
        for op in range(14, 23):
            for size in SIZES if op < 21 else (2, 4, 8):
                for n in (0, 64, -64, 128, 192, LOWEST_INT, 2147483584) + ((32, -32, 96, -96) if size < 8 else ()):
                    for x in (0, 1, 0x81):
                        self.check(n, op, size, x, 0x55, n, None, "", "CPAZSO", ALL)

    def test_32_is_not_nothing_for_64_bits(self):
        self.check(32, 14, 8, 1, 0, 32, 0x0000000100000000, "P", "", ALL)
        self.check(-32, 14, 8, 1, 0, -32, 0x0000000100000000, "P", "", ALL)

    def test_n_of_any_sign(self):
        # The highest int is 31 modulo 32 and 63 modulo 64, the lowest is 0, the one above it 1.
        for n in (1, 65, 129, -63, -127, LOWEST_INT + 1):
            for size in SIZES:
                self.check(n, 14, size, 1, 0, n, 2, "", "", ALL)
        for n in (33, -31, 97):
            for size in (1, 2, 4):
                self.check(n, 14, size, 1, 0, n, 2, "", "", ALL)
        for n in (-1, 63, 127, HIGHEST_INT):
            self.check(n, 14, 1, 1, 0, n, 0, "ZP", "", ALL)
            self.check(n, 14, 2, 1, 0, n, 0, "ZP", "", ALL)
            self.check(n, 14, 4, 1, 0, n, 0x80000000, "OSP", "", ALL)
            self.check(n, 14, 8, 1, 0, n, 0x8000000000000000, "OSP", "", ALL)


class Point5(Rows):
    def check_rows(self, op, rows):
        for row in rows:
            size, x, n, result, set_flags = row
            self.check(row, op, size, x, 0x3C, n, result, set_flags, "", ALL)

    def test_left(self):
        self.check_rows(14, (
            (1, 0x81, 1, 0x02, "CO"), (1, 0x81, 7, 0x80, "OS"), (1, 0x81, 8, 0x00, "COZP"), (1, 0x81, 9, 0x00, "ZP"),
            (1, 0x40, 1, 0x80, "OS"), (1, 0xC0, 1, 0x80, "CS"), (1, 0x01, 1, 0x02, ""), (1, 0xFF, 31, 0x00, "ZP"),
            (1, 0xFF, 8, 0x00, "COZP"), (1, 0xFE, 8, 0x00, "ZP"), (1, 0xFF, 4, 0xF0, "CSP"), (1, 0xFF, 9, 0x00, "ZP"),
            (1, 0x00, 1, 0x00, "ZP"),
            (2, 0x8001, 1, 0x0002, "CO"), (2, 0x8001, 15, 0x8000, "OSP"), (2, 0x8001, 16, 0, "COZP"),
            (2, 0x8001, 17, 0, "ZP"), (2, 0x4000, 1, 0x8000, "OSP"), (2, 0xFFFF, 31, 0, "ZP"),
            (4, 0x80000001, 1, 2, "CO"), (4, 0x80000001, 31, 0x80000000, "OSP"), (4, 0x80000001, 33, 2, "CO"),
            (4, 0xC0000000, 1, 0x80000000, "CSP"), (4, 0x00000003, 31, 0x80000000, "CSP"),
            (8, 0x8000000000000001, 1, 2, "CO"), (8, 0x8000000000000001, 63, 0x8000000000000000, "OSP"),
            (8, 0x8000000000000001, 32, 0x0000000100000000, "P"), (8, 0x8000000000000001, 65, 2, "CO"),
            (8, 0x8000000000000001, 31, 0x0000000080000000, "P"), (8, 0x8000000000000001, 33, 0x0000000200000000, "P")))

    def test_right(self):
        self.check_rows(15, (
            (1, 0x81, 1, 0x40, "CO"), (1, 0x81, 7, 0x01, "O"), (1, 0x81, 8, 0x00, "COZP"), (1, 0x81, 9, 0x00, "OZP"),
            (1, 0x81, 31, 0x00, "OZP"), (1, 0x81, -1, 0x00, "OZP"), (1, 0x7F, 1, 0x3F, "CP"), (1, 0x7F, 31, 0x00, "ZP"),
            (1, 0x7F, 7, 0x00, "CZP"), (1, 0x7F, 8, 0x00, "ZP"), (1, 0x00, 1, 0x00, "ZP"),
            (2, 0x8001, 1, 0x4000, "COP"), (2, 0x8001, 15, 1, "O"), (2, 0x8001, 16, 0, "COZP"),
            (2, 0x8001, 17, 0, "OZP"),
            (2, 0x7FFF, 16, 0, "ZP"),
            (4, 0x80000001, 1, 0x40000000, "COP"), (4, 0x80000001, 31, 1, "O"), (4, 0xC0000000, 31, 1, "CO"),
            (4, 0x80000001, 33, 0x40000000, "COP"),
            (8, 0x8000000000000001, 1, 0x4000000000000000, "COP"), (8, 0x8000000000000001, 63, 1, "O"),
            (8, 0x8000000000000001, 32, 0x80000000, "OP"), (8, 0x00000000FFFFFFFF, 32, 0, "CZP")))

    def test_right_with_the_sign(self):
        self.check_rows(16, (
            (1, 0x81, 1, 0xC0, "CSP"), (1, 0x81, 7, 0xFF, "SP"), (1, 0x81, 8, 0xFF, "CSP"), (1, 0x81, 9, 0xFF, "CSP"),
            (1, 0x81, 31, 0xFF, "CSP"), (1, 0x7F, 1, 0x3F, "CP"), (1, 0x7F, 7, 0x00, "CZP"), (1, 0x7F, 8, 0x00, "ZP"),
            (1, 0x7F, 31, 0x00, "ZP"), (1, 0x80, 7, 0xFF, "SP"),
            (2, 0x8001, 1, 0xC000, "CSP"), (2, 0x8001, 15, 0xFFFF, "SP"), (2, 0x8001, 16, 0xFFFF, "CSP"),
            (2, 0x8001, 17, 0xFFFF, "CSP"), (2, 0x7FFF, 15, 0, "CZP"), (2, 0x7FFF, 17, 0, "ZP"),
            (4, 0x80000001, 1, 0xC0000000, "CSP"), (4, 0x80000001, 31, 0xFFFFFFFF, "SP"), (4, 0x7FFFFFFF, 31, 0, "CZP"),
            (8, 0x8000000000000001, 1, 0xC000000000000000, "CSP"), (8, 0x8000000000000001, 63, TOP, "SP"),
            (8, 0x7FFFFFFFFFFFFFFF, 63, 0, "CZP"), (8, 0x8000000000000000, 32, 0xFFFFFFFF80000000, "SP")))


class Point6(Rows):
    def check_rows(self, op, rows):
        for row in rows:
            size, x, n, result, set_flags = row
            self.check(row, op, size, x, 0x3C, n, result, set_flags, "PAZS", every_choice_of_flags()[::5] + [ALL_FLAGS])

    def test_left(self):
        self.check_rows(17, (
            (1, 0x81, 1, 0x03, "CO"), (1, 0x81, 7, 0xC0, "O"), (1, 0x81, 8, 0x81, "C"), (1, 0x80, 8, 0x80, "O"),
            (1, 0x40, 1, 0x80, "O"), (1, 0x81, 9, 0x03, "CO"), (1, 0x81, 16, 0x81, "C"), (1, 0x81, 24, 0x81, "C"),
            (1, 0x81, 31, 0xC0, "O"), (1, 0x00, 5, 0x00, ""), (1, 0xFF, 3, 0xFF, "C"), (1, 0x81, -1, 0xC0, "O"),
            (2, 0x8001, 1, 0x0003, "CO"), (2, 0x8001, 16, 0x8001, "C"), (2, 0x8001, 17, 0x0003, "CO"),
            (2, 0x8001, 31, 0xC000, "O"), (2, 0x1234, 8, 0x3412, ""),
            (4, 0x80000001, 1, 3, "CO"), (4, 0x80000001, 31, 0xC0000000, "O"), (4, 0x12345678, 16, 0x56781234, ""),
            (8, 0x8000000000000001, 1, 3, "CO"), (8, 0x8000000000000001, 63, 0xC000000000000000, "O"),
            (8, 0x8000000000000001, 32, 0x0000000180000000, "")))

    def test_right(self):
        self.check_rows(18, (
            (1, 0x81, 1, 0xC0, "C"), (1, 0x81, 7, 0x03, ""), (1, 0x81, 8, 0x81, "CO"), (1, 0x01, 1, 0x80, "CO"),
            (1, 0x02, 1, 0x01, ""), (1, 0x40, 8, 0x40, "O"), (1, 0x81, 31, 0x03, ""), (1, 0x81, 24, 0x81, "CO"),
            (1, 0x01, 2, 0x40, "O"), (1, 0xFF, 5, 0xFF, "C"), (1, 0x00, 8, 0x00, ""), (1, 0x81, 9, 0xC0, "C"),
            (2, 0x8001, 1, 0xC000, "C"), (2, 0x0001, 1, 0x8000, "CO"), (2, 0x8001, 16, 0x8001, "CO"),
            (2, 0x8001, 17, 0xC000, "C"), (2, 0x0001, 2, 0x4000, "O"),
            (4, 1, 1, 0x80000000, "CO"), (4, 1, 2, 0x40000000, "O"), (4, 0x80000001, 31, 3, ""),
            (8, 1, 1, 0x8000000000000000, "CO"), (8, 1, 2, 0x4000000000000000, "O"),
            (8, 0x8000000000000001, 63, 3, "")))


class Point7(Rows):
    def check_rows(self, op, rows):
        for row in rows:
            size, x, carry, n, result, set_flags = row
            befores = [before for before in every_choice_of_flags() if before % 2 == carry]
            self.check(row, op, size, x, 0x3C, n, result, set_flags, "PAZS", befores[::3] + befores[-1:])

    def test_left(self):
        self.check_rows(19, (
            (1, 0x81, 0, 1, 0x02, "CO"), (1, 0x81, 1, 1, 0x03, "CO"), (1, 0x40, 0, 1, 0x80, "O"),
            (1, 0x00, 1, 1, 0x01, ""),
            (1, 0x00, 1, 8, 0x80, "O"), (1, 0x81, 0, 10, 0x02, "CO"), (1, 0x81, 1, 19, 0x03, "CO"),
            (1, 0x0F, 0, 31, 0xF0, "O"), (1, 0xF0, 1, 31, 0x0F, "CO"), (1, 0x0F, 0, 4, 0xF0, "O"),
            (1, 0xC0, 0, 1, 0x80, "C"),
            (2, 0x8001, 0, 1, 0x0002, "CO"), (2, 0x8001, 1, 1, 0x0003, "CO"), (2, 0x0001, 0, 16, 0x0000, "CO"),
            (2, 0x8001, 1, 18, 0x0003, "CO"),
            (4, 0x80000001, 1, 1, 3, "CO"), (4, 1, 0, 31, 0x80000000, "O"), (4, 2, 0, 31, 0, "CO"),
            (8, 0x8000000000000001, 1, 1, 3, "CO"), (8, 1, 0, 63, 0x8000000000000000, "O"), (8, 2, 0, 63, 0, "CO"),
            (8, 0, 1, 32, 0x80000000, ""), (8, 0, 1, 65, 1, "")))

    def test_right(self):
        self.check_rows(20, (
            (1, 0x01, 0, 1, 0x00, "C"), (1, 0x01, 1, 1, 0x80, "CO"), (1, 0x00, 1, 1, 0x80, "O"),
            (1, 0x80, 1, 1, 0xC0, ""),
            (1, 0x80, 0, 1, 0x40, "O"), (1, 0x00, 1, 2, 0x40, "O"), (1, 0x01, 0, 10, 0x00, "C"),
            (1, 0x80, 0, 8, 0x00, "C"),
            (1, 0x00, 1, 8, 0x01, ""), (1, 0x00, 1, 28, 0x80, "O"),
            (2, 0x0001, 0, 1, 0x0000, "C"), (2, 0x0000, 1, 1, 0x8000, "O"), (2, 0x0000, 1, 18, 0x8000, "O"),
            (2, 0x8000, 0, 16, 0x0000, "C"),
            (4, 0x80000000, 0, 31, 1, ""), (4, 0x40000000, 0, 31, 0, "C"), (4, 0x20000000, 0, 31, 0x80000000, "O"),
            (4, 0, 1, 1, 0x80000000, "O"),
            (8, 0x8000000000000000, 0, 63, 1, ""), (8, 0x4000000000000000, 0, 63, 0, "C"),
            (8, 0x2000000000000000, 0, 63, 0x8000000000000000, "O"), (8, 0, 1, 1, 0x8000000000000000, "O"),
            (8, 1, 0, 1, 0, "C")))

    def test_all_the_way_round_nothing_changes(self):
        for op in (19, 20):
            for size, n in ((1, 9), (1, 18), (1, 27), (1, 41), (1, -5), (2, 17), (2, 49), (2, -15)):
                for x in (0x00, 0x01, 0x80, 0xFF):
                    self.check((size, n), op, size, x, 0x3C, n, None, "", "CPAZSO", every_choice_of_flags())

    def test_one_way_and_back(self):
        for size in SIZES:
            for k in range(1, 64 if size == 8 else 32):
                told, registers, flags_after = after(FILLED, 1, [[DO, 19, size, 1, 0, k], [DO, 20, size, 1, 0, k]])
                expected = FILLED[1] % 2 ** 32 if size == 4 else FILLED[1]
                self.assertEqual((size, k, told, registers), (size, k, [[0], [0]], changed(FILLED, {1: expected})))
                self.assertEqual(flags_after % 2, 1)


class Point8(Rows):
    def check_rows(self, op, rows):
        for row in rows:
            size, x, y, n, result, set_flags = row
            self.check(row, op, size, x, y, n, result, set_flags, "", ALL)

    def test_left(self):
        self.check_rows(21, (
            (2, 0x8001, 0xC000, 1, 0x0003, "COP"), (2, 0x8001, 0x1234, 16, 0x1234, "CO"),
            (2, 0x8001, 0x8000, 15, 0xC000, "SP"),
            (2, 0x0000, 0x0000, 5, 0x0000, "ZP"), (2, 0x4000, 0x0000, 1, 0x8000, "OSP"),
            (2, 0x8001, 0xC000, 33, 0x0003, "COP"),
            (2, 0x8001, 0x1234, -16, 0x1234, "CO"), (2, 0x8000, 0x8234, 16, 0x8234, "S"),
            (4, 0x80000001, 0x80000000, 1, 3, "COP"), (4, 0x80000001, 2, 31, 0x80000001, "S"),
            (4, 0x12345678, 0x9ABCDEF0, 16, 0x56789ABC, ""),
            (8, 0x8000000000000001, 0x8000000000000000, 1, 3, "COP"),
            (8, 0x8000000000000001, 2, 63, 0x8000000000000001, "S"),
            (8, 0x0000000012345678, 0x9ABCDEF000000000, 32, 0x123456789ABCDEF0, "P")))

    def test_right(self):
        self.check_rows(22, (
            (2, 0x8001, 0x0001, 1, 0xC000, "CSP"), (2, 0x8001, 0x0000, 1, 0x4000, "COP"),
            (2, 0x8001, 0x1234, 16, 0x1234, "CO"),
            (2, 0x8001, 0x0003, 15, 0x0007, "O"), (2, 0x0000, 0x0000, 16, 0x0000, "ZP"),
            (2, 0x0000, 0x0001, 1, 0x8000, "OSP"),
            (4, 0x80000001, 1, 1, 0xC0000000, "CSP"), (4, 0x80000001, 3, 31, 7, "O"),
            (8, 0x8000000000000001, 1, 1, 0xC000000000000000, "CSP"), (8, 0x8000000000000001, 3, 63, 7, "O"),
            (8, 0x123456789ABCDEF0, 0x0000000055667788, 32, 0x5566778812345678, "CP")))


class Point9(Rows):
    def check_rows(self, op, rows):
        for row in rows:
            size, x, y, low, high, set_flags = row
            self.check(row, op, size, x, y, 0, low, set_flags, "", ALL, high)
            self.check(row, op, size, y, x, 0, low, set_flags, "", ALL, high)

    def test_without_signs(self):
        self.check_rows(23, (
            (1, 0x00, 0x00, 0x00, 0x00, "ZP"), (1, 0x10, 0x10, 0x00, 0x01, "COZP"), (1, 0xFF, 0xFF, 0x01, 0xFE, "CO"),
            (1, 0x0F, 0x11, 0xFF, 0x00, "SP"), (1, 0x80, 0x02, 0x00, 0x01, "COZP"), (1, 0x01, 0xFF, 0xFF, 0x00, "SP"),
            (1, 0x03, 0x05, 0x0F, 0x00, "P"), (1, 0x00, 0xFF, 0x00, 0x00, "ZP"), (1, 0x80, 0x80, 0x00, 0x40, "COZP"),
            (2, 0xFFFF, 0xFFFF, 0x0001, 0xFFFE, "CO"), (2, 0x0100, 0x0100, 0x0000, 0x0001, "COZP"),
            (2, 0x00FF, 0x0101, 0xFFFF, 0x0000, "SP"), (2, 0, 0x1234, 0, 0, "ZP"),
            (4, 0xFFFFFFFF, 0xFFFFFFFF, 1, 0xFFFFFFFE, "CO"), (4, 0x10000, 0x10000, 0, 1, "COZP"),
            (4, 0x0000FFFF, 0x00010001, 0xFFFFFFFF, 0, "SP"),
            (8, TOP, TOP, 1, TOP - 1, "CO"), (8, 0x100000000, 0x100000000, 0, 1, "COZP"),
            (8, 0x00000000FFFFFFFF, 0x0000000100000001, TOP, 0, "SP"), (8, TOP, 0, 0, 0, "ZP")))

    def test_with_signs(self):
        self.check_rows(24, (
            (1, 0xFF, 0xFF, 0x01, 0x00, ""), (1, 0x80, 0x80, 0x00, 0x40, "COZP"), (1, 0x80, 0xFF, 0x80, 0x00, "COS"),
            (1, 0x7F, 0x7F, 0x01, 0x3F, "CO"), (1, 0x80, 0x01, 0x80, 0xFF, "S"), (1, 0x80, 0x7F, 0x80, 0xC0, "COS"),
            (1, 0x7F, 0xFF, 0x81, 0xFF, "SP"), (1, 0x02, 0x40, 0x80, 0x00, "COS"), (1, 0x02, 0xC0, 0x80, 0xFF, "S"),
            (1, 0x00, 0x80, 0x00, 0x00, "ZP"), (1, 0x01, 0x7F, 0x7F, 0x00, ""), (1, 0xFE, 0x80, 0x00, 0x01, "COZP"),
            (1, 0x02, 0x80, 0x00, 0xFF, "COZP"),
            (2, 0xFFFF, 0xFFFF, 1, 0, ""), (2, 0x8000, 0x8000, 0, 0x4000, "COZP"),
            (2, 0x8000, 0xFFFF, 0x8000, 0, "COSP"),
            (2, 0x8000, 0x0001, 0x8000, 0xFFFF, "SP"), (2, 0x7FFF, 0x7FFF, 0x0001, 0x3FFF, "CO"),
            (4, 0x80000000, 0x80000000, 0, 0x40000000, "COZP"), (4, 0x80000000, 0xFFFFFFFF, 0x80000000, 0, "COSP"),
            (4, 0xFFFFFFFF, 1, 0xFFFFFFFF, 0xFFFFFFFF, "SP"),
            (8, TOP, TOP, 1, 0, ""), (8, 0x8000000000000000, 0x8000000000000000, 0, 0x4000000000000000, "COZP"),
            (8, 0x8000000000000000, TOP, 0x8000000000000000, 0, "COSP"), (8, TOP, 1, TOP, TOP, "SP"),
            (8, 0x8000000000000000, 1, 0x8000000000000000, TOP, "SP")))

    def test_d_and_s_the_same_has_the_high_half_and_the_flags_of_the_low_one(self):
        for op, size, x, high, set_flags in ((23, 1, 0xFF, 0xFE, "CO"), (23, 2, 0x0100, 0x0001, "COZP"),
                                             (23, 4, 0xFFFFFFFF, 0xFFFFFFFE, "CO"), (23, 8, TOP, TOP - 1, "CO"),
                                             (24, 1, 0x80, 0x40, "COZP"), (24, 2, 0xFFFF, 0, ""),
                                             (24, 4, 0xFFFFFFFF, 0, ""), (24, 8, TOP, 0, "")):
            registers = changed(FILLED, {D: full(size, x)})
            for before in ALL:
                self.assertEqual(after(registers, before, [[DO, op, size, D, D, 0]]),
                                 ([[0]], changed(FILLED, {D: written(size, high)}), flags(set_flags)))


class Point10(Rows):
    def check_rows(self, op, rows):
        for row in rows:
            size, high, low, divisor, quotient, rest = row
            registers = changed(FILLED, {D: full(size, low), S: full(size, high), 7: full(size, divisor)})
            expected = changed(registers, {D: written(size, quotient), S: written(size, rest)})
            for before in ALL:
                with self.subTest(op=op, row=row):
                    self.assertEqual(after(registers, before, [[DO, op, size, D, S, 7]]), ([[0]], expected, before))

    def test_without_signs(self):
        self.check_rows(25, (
            (1, 0x00, 0x07, 0x02, 0x03, 0x01), (1, 0x01, 0x00, 0x02, 0x80, 0x00), (1, 0x01, 0xFF, 0x02, 0xFF, 0x01),
            (1, 0xFE, 0xFF, 0xFF, 0xFF, 0xFE), (1, 0x00, 0x00, 0x05, 0x00, 0x00), (1, 0x00, 0xFF, 0x01, 0xFF, 0x00),
            (1, 0x00, 0x07, 0x80, 0x00, 0x07),
            (2, 0x0001, 0x0000, 0x0002, 0x8000, 0x0000), (2, 0xFFFE, 0xFFFF, 0xFFFF, 0xFFFF, 0xFFFE),
            (2, 0, 7, 2, 3, 1),
            (4, 1, 0, 2, 0x80000000, 0), (4, 0xFFFFFFFE, 0xFFFFFFFF, 0xFFFFFFFF, 0xFFFFFFFF, 0xFFFFFFFE),
            (4, 0, 7, 2, 3, 1),
            (8, 1, 0, 2, 0x8000000000000000, 0), (8, TOP - 1, TOP, TOP, TOP, TOP - 1), (8, 0, 7, 2, 3, 1)))

    def test_with_signs(self):
        self.check_rows(26, (
            (1, 0x00, 0x07, 0x02, 0x03, 0x01), (1, 0xFF, 0xF9, 0x02, 0xFD, 0xFF), (1, 0x00, 0x07, 0xFE, 0xFD, 0x01),
            (1, 0xFF, 0xF9, 0xFE, 0x03, 0xFF), (1, 0x00, 0x80, 0xFF, 0x80, 0x00), (1, 0xFF, 0x80, 0x01, 0x80, 0x00),
            (1, 0x00, 0x7F, 0x01, 0x7F, 0x00), (1, 0x00, 0xFF, 0x02, 0x7F, 0x01), (1, 0xFF, 0x00, 0x02, 0x80, 0x00),
            (1, 0xFE, 0xFF, 0x02, 0x80, 0xFF), (1, 0x01, 0x01, 0xFE, 0x80, 0x01), (1, 0xFF, 0xFF, 0x02, 0x00, 0xFF),
            (1, 0x00, 0x01, 0xFE, 0x00, 0x01), (1, 0xFF, 0x81, 0xFF, 0x7F, 0x00), (1, 0xC0, 0x80, 0x80, 0x7F, 0x00),
            (2, 0xFFFF, 0xFFF9, 0x0002, 0xFFFD, 0xFFFF), (2, 0x0000, 0x8000, 0xFFFF, 0x8000, 0x0000),
            (2, 0x0000, 0xFFFF, 0x0002, 0x7FFF, 0x0001), (2, 0xFFFE, 0xFFFF, 0x0002, 0x8000, 0xFFFF),
            (4, 0xFFFFFFFF, 0xFFFFFFF9, 2, 0xFFFFFFFD, 0xFFFFFFFF), (4, 0, 0x80000000, 0xFFFFFFFF, 0x80000000, 0),
            (4, 0, 7, 0xFFFFFFFE, 0xFFFFFFFD, 1),
            (8, TOP, TOP - 6, 2, TOP - 2, TOP), (8, 0, 0x8000000000000000, TOP, 0x8000000000000000, 0),
            (8, 0, TOP, 2, 0x7FFFFFFFFFFFFFFF, 1), (8, TOP - 1, TOP, 2, 0x8000000000000000, TOP)))

    def check_registers(self, op, size, d, s, n, begun, expected):
        told, registers, flags_after = after(changed(FILLED, begun), ALL_FLAGS, [[DO, op, size, d, s, n]])
        self.assertEqual((told, registers, flags_after), ([[0]], changed(FILLED, {**begun, **expected}), ALL_FLAGS))

    def test_d_and_the_divisor_the_same(self):
        # 0x0307 is 775 = 7 * 110 + 5.
        self.check_registers(25, 1, 4, 6, 4, {4: 0x07, 6: 0x03}, {4: 110, 6: 5})
        self.check_registers(25, 8, 4, 6, 4, {4: 5, 6: 0}, {4: 1, 6: 0})
        self.check_registers(26, 4, 4, 6, 4, {4: 0xFFFFFFFB, 6: 0xFFFFFFFF}, {4: 1, 6: 0})

    def test_s_and_the_divisor_the_same(self):
        # -256 + 255 is -1: by -1 it is 1.
        self.check_registers(26, 1, 4, 6, 6, {4: 0xFF, 6: 0xFF}, {4: 1, 6: 0})
        self.check_registers(26, 8, 4, 6, 6, {4: TOP, 6: TOP}, {4: 1, 6: 0})

    def test_d_and_s_the_same_has_the_rest(self):
        # 0x0101 is 257 = 2 * 128 + 1; 0x0303 is 771 = 7 * 110 + 1; 0xFFFF is -1.
        self.check_registers(25, 1, 4, 4, 8, {4: 0x01, 8: 0x02}, {4: 1})
        self.check_registers(25, 1, 4, 4, 8, {4: 0x0A03, 8: 0x07}, {4: 0x0A01})
        self.check_registers(26, 1, 4, 4, 8, {4: 0x0AFF, 8: 0x02}, {4: 0x0AFF})
        self.check_registers(26, 4, 4, 4, 8, {4: 0x0AFFFFFFFF, 8: 0xFFFFFFFF}, {4: 0})

    def test_all_three_the_same_with_signs(self):
        # -1 by -1 is 1 without a rest, and the rest comes last.
        self.check_registers(26, 2, 4, 4, 4, {4: 0xFFFF}, {4: 0})


class Point11(Rows):
    ROWS = (  # size, y, lowest, highest, how many
        (1, 0x01, 0, 0, 1), (1, 0x80, 7, 7, 1), (1, 0x0A, 1, 3, 2), (1, 0xFF, 0, 7, 8), (1, 0x7E, 1, 6, 6),
        (2, 0x0001, 0, 0, 1), (2, 0x8000, 15, 15, 1), (2, 0x0180, 7, 8, 2), (2, 0xFFFF, 0, 15, 16),
        (2, 0x7FFF, 0, 14, 15),
        (4, 0x00000001, 0, 0, 1), (4, 0x80000000, 31, 31, 1), (4, 0xFFFFFFFF, 0, 31, 32), (4, 0x00018000, 15, 16, 2),
        (8, 1, 0, 0, 1), (8, 0x8000000000000000, 63, 63, 1), (8, TOP, 0, 63, 64), (8, 0x0000000180000000, 31, 32, 2))

    def test_of_a_number_that_is_not_0(self):
        for row in self.ROWS:
            size, y, lowest, highest, many = row
            for x in (0, 256 ** size - 1):
                self.check(row, 27, size, x, y, 0, lowest, "", "CPASO", every_choice_of_flags()[::7] + [ALL_FLAGS])
                self.check(row, 28, size, x, y, 0, highest, "", "CPASO", every_choice_of_flags()[::7] + [ALL_FLAGS])
                self.check(row, 29, size, x, y, 0, many, "", "", ALL)

    def test_of_0(self):
        for size in SIZES:
            for x in (0, 1, 256 ** size - 1):
                self.check(size, 27, size, x, 0, 0, None, "Z", "CPASO", every_choice_of_flags())
                self.check(size, 28, size, x, 0, 0, None, "Z", "CPASO", every_choice_of_flags())
                self.check(size, 29, size, x, 0, 0, 0, "Z", "", ALL)


class Point12(Rows):
    def test_bytes_turned_round(self):
        for row in ((4, 0x12345678, 0x78563412), (4, 0x000000FF, 0xFF000000), (4, 0, 0), (4, 0xFFFFFFFF, 0xFFFFFFFF),
                    (8, 0x123456789ABCDEF0, 0xF0DEBC9A78563412), (8, 1, 0x0100000000000000), (8, 0, 0), (8, TOP, TOP)):
            size, x, result = row
            self.check(row, 30, size, x, 0x55, 0, result, "", "CPAZSO", every_choice_of_flags())


class Point13(Rows):
    def check_bit(self, size, x, n, place):
        """The bit at that place of x is meant by n: asked, set, cleared and changed."""
        value = 1 << place
        was = x // value % 2
        for op, result in ((31, None), (32, x + value * (1 - was)), (33, x - value * was),
                           (34, x - value if was else x + value)):
            self.check((x, n, place), op, size, x, 0x3C, n, result, "C" if was else "", "PAZSO", ALL)

    def test_each_place(self):
        for size in SIZES:
            for place in range(8 * size):
                self.check_bit(size, 0x5A5A5A5A5A5A5A5A % 256 ** size, place, place)

    def test_n_of_any_sign_and_above_W(self):
        for size in SIZES:
            width = 8 * size
            for x in (0, 256 ** size - 1, 1, 128 * 256 ** (size - 1)):
                for n, place in ((0, 0), (width - 1, width - 1), (width, 0), (width + 1, 1), (-1, width - 1),
                                 (-width, 0),
                                 (-width - 1, width - 1), (LOWEST_INT, 0), (LOWEST_INT + 1, 1),
                                 (HIGHEST_INT, width - 1),
                                 (64, 0), (65, 1), (128, 0), (255, width - 1)):
                    self.check_bit(size, x, n, place)

    def test_by_hand(self):
        for row in ((31, 1, 0x81, 7, None, "C"), (31, 1, 0x81, 1, None, ""), (32, 1, 0x81, 1, 0x83, ""),
                    (32, 1, 0x81, 0, 0x81, "C"), (33, 1, 0x81, 0, 0x80, "C"), (33, 1, 0x81, 1, 0x81, ""),
                    (34, 1, 0x81, 0, 0x80, "C"), (34, 1, 0x81, 1, 0x83, ""), (34, 2, 0x8000, -1, 0, "C"),
                    (32, 4, 0, 63, 0x80000000, ""), (33, 8, TOP, 63, 0x7FFFFFFFFFFFFFFF, "C")):
            op, size, x, n, result, set_flags = row
            self.check(row, op, size, x, 0, n, result, set_flags, "PAZSO", ALL)


class Point14(Rows):
    # By half the condition's number, some numbers of flags for which it holds, and some for which it doesn't.
    CASES = ((("O", "SO"), ("", "CPAZS")), (("C", "CPAZSO"), ("", "PAZSO")), (("Z",), ("", "CPASO")),
             (("C", "Z", "CZ"), ("", "PASO")), (("S",), ("", "CPAZO")), (("P",), ("", "CAZSO")),
             (("S", "O", "ZO"), ("", "SO", "Z", "CPAZ")), (("S", "O", "Z", "ZSO"), ("", "SO", "CPA")))

    def check_condition(self, condition, holds, letters):
        before = [flags(letters)]
        for size, x, y in ((2, 0x1234, 0x8765), (4, 0x12345678, 0x87654321),
                           (8, 0x0123456789ABCDEF, 0xFEDCBA9876543210),
                           (2, 1, 0), (4, 0, 0), (8, TOP, 0)):
            self.check(condition, 35, size, x, y, condition, y if holds else None, "", "CPAZSO", before)
        for x in (0x00, 0x01, 0xFF):
            self.check(condition, 36, 1, x, 0x77, condition, 1 if holds else 0, "", "CPAZSO", before)

    def test_each_condition(self):
        for half, (holding, not_holding) in enumerate(self.CASES):
            for letters in holding:
                self.check_condition(2 * half, True, letters)
                self.check_condition(2 * half + 1, False, letters)
            for letters in not_holding:
                self.check_condition(2 * half, False, letters)
                self.check_condition(2 * half + 1, True, letters)

    def test_not_even_the_other_bits_change_where_it_does_not_hold(self):
        registers = changed(FILLED, {D: 0x1111111122222222, S: 0x3333333344444444})
        self.assertEqual(after(registers, 0, [[DO, 35, 4, D, S, 4]]), ([[0]], registers, 0))
        self.assertEqual(after(registers, 0, [[DO, 35, 4, D, S, 5]]), ([[0]], changed(registers, {D: 0x44444444}), 0))
        self.assertEqual(after(registers, 0, [[DO, 35, 4, D, D, 5]]), ([[0]], changed(registers, {D: 0x22222222}), 0))
        self.assertEqual(after(registers, 0, [[DO, 35, 4, D, D, 4]]), ([[0]], registers, 0))


class Point15(Rows):
    def test_exchange_changes_no_flag(self):
        for row in ((1, 0x12, 0xFE), (1, 0, 0), (2, 0x1234, 0xFEDC), (4, 0x12345678, 0xFEDCBA98), (4, 0, 0xFFFFFFFF),
                    (8, 1, TOP)):
            size, x, y = row
            self.check(row, 37, size, x, y, 0, y, "", "CPAZSO", every_choice_of_flags()[::5] + [ALL_FLAGS], x)

    def test_exchange_with_itself(self):
        for size, begun, expected in ((1, 0x1122334455667788, 0x1122334455667788),
                                      (2, 0x1122334455667788, 0x1122334455667788),
                                      (4, 0x1122334455667788, 0x55667788), (8, 0x1122334455667788, 0x1122334455667788)):
            self.assertEqual(after(changed(FILLED, {D: begun}), ALL_FLAGS, [[DO, 37, size, D, D, 0]]),
                             ([[0]], changed(FILLED, {D: expected}), ALL_FLAGS))

    def test_exchange_and_add(self):
        for row in SUMS:
            size, x, y, result, set_flags = row
            self.check(row, 38, size, x, y, 0, result, set_flags, "", ALL, x)

    def test_exchange_and_add_with_itself_has_the_sum(self):
        for size, x, result, set_flags in ((1, 0x80, 0x00, "COZP"), (1, 0x7F, 0xFE, "AOS"), (2, 0xFFFF, 0xFFFE, "CAS"),
                                           (4, 0x80000000, 0, "COZP"), (4, 3, 6, "P"), (8, TOP, TOP - 1, "CAS")):
            for before in ALL:
                self.assertEqual(after(changed(FILLED, {D: full(size, x)}), before, [[DO, 38, size, D, D, 0]]),
                                 ([[0]], changed(FILLED, {D: written(size, result)}), flags(set_flags)))

    def check_compare(self, row, size, z, x, y, set_flags):
        """z and x are compared; with y in register 5."""
        registers = changed(FILLED, {0: full(size, z), D: full(size, x), S: full(size, y)})
        new = {D: written(size, y)} if z == x else {0: written(size, x)}
        for before in ALL:
            with self.subTest(row=row):
                self.assertEqual(after(registers, before, [[DO, 39, size, D, S, 0]]),
                                 ([[0]], changed(registers, new), flags(set_flags)))

    def test_compare_and_exchange(self):
        for row in DIFFERENCES:
            size, z, x, left, set_flags = row
            for y in (0, 0x69, 256 ** size - 1):
                self.check_compare(row, size, z, x, y, set_flags)

    def test_compare_and_exchange_with_register_0(self):
        for size in SIZES:
            for before in ALL:
                # d is register 0: it is always equal to itself, and gets y.
                registers = changed(FILLED, {0: full(size, 0x21), S: full(size, 0x43)})
                self.assertEqual(after(registers, before, [[DO, 39, size, 0, S, 0]]),
                                 ([[0]], changed(registers, {0: written(size, 0x43)}), flags("ZP")))
                # s is register 0: where they are equal, d gets the same again; else register 0 gets x.
                registers = changed(FILLED, {0: full(size, 0x21), D: full(size, 0x21)})
                self.assertEqual(after(registers, before, [[DO, 39, size, D, 0, 0]]),
                                 ([[0]], changed(registers, {D: written(size, 0x21)}), flags("ZP")))
                registers = changed(FILLED, {0: full(size, 0x21), D: full(size, 0x11)})
                self.assertEqual(after(registers, before, [[DO, 39, size, D, 0, 0]]),
                                 ([[0]], changed(registers, {0: written(size, 0x11)}), flags("")))
                # All three are register 0.
                registers = changed(FILLED, {0: full(size, 0x21)})
                self.assertEqual(after(registers, before, [[DO, 39, size, 0, 0, 0]]),
                                 ([[0]], changed(registers, {0: written(size, 0x21)}), flags("ZP")))

    def test_compare_and_exchange_with_d_and_s_the_same(self):
        registers = changed(FILLED, {0: 0xAAAAAAAA00000005, D: 0xBBBBBBBB00000005})
        self.assertEqual(after(registers, 0, [[DO, 39, 4, D, D, 0]]), ([[0]], changed(registers, {D: 5}), flags("ZP")))
        registers = changed(FILLED, {0: 0xAAAAAAAA00000006, D: 0xBBBBBBBB00000005})
        self.assertEqual(after(registers, 0, [[DO, 39, 4, D, D, 0]]), ([[0]], changed(registers, {0: 5}), 0))


class Point16(Rows):
    ROWS = (  # size, n, y, with zeros, with the sign, flags of the latter
        (2, 1, 0x1280, 0x0080, 0xFF80, "S"), (2, 1, 0xFF7F, 0x007F, 0x007F, ""), (2, 1, 0xFF00, 0, 0, "ZP"),
        (2, 1, 0x00FF, 0x00FF, 0xFFFF, "SP"), (2, 1, 0x0001, 1, 1, ""),
        (4, 1, 0x12345680, 0x80, 0xFFFFFF80, "S"), (4, 1, 0xFFFFFF7F, 0x7F, 0x7F, ""), (4, 1, 0xFFFFFF00, 0, 0, "ZP"),
        (4, 2, 0x12348000, 0x8000, 0xFFFF8000, "SP"), (4, 2, 0xFFFF7FFF, 0x7FFF, 0x7FFF, "P"),
        (4, 2, 0xFFFF0000, 0, 0, "ZP"),
        (8, 1, 0x1122334455667780, 0x80, 0xFFFFFFFFFFFFFF80, "S"), (8, 1, 0xFFFFFFFFFFFFFF7F, 0x7F, 0x7F, ""),
        (8, 2, 0x1122334455668000, 0x8000, 0xFFFFFFFFFFFF8000, "SP"), (8, 2, 0xFFFFFFFFFFFF7FFF, 0x7FFF, 0x7FFF, "P"),
        (8, 4, 0x1122334480000000, 0x80000000, 0xFFFFFFFF80000000, "SP"),
        (8, 4, 0xFFFFFFFF7FFFFFFF, 0x7FFFFFFF, 0x7FFFFFFF, "P"), (8, 4, 0xFFFFFFFF00000000, 0, 0, "ZP"))

    def test_widened(self):
        for row in self.ROWS:
            size, n, y, zeros, sign, set_flags = row
            for x in (0, 256 ** size - 1):
                self.check(row, 40, size, x, y, n, zeros, "", "CPAZSO", ALL)
                self.check(row, 41, size, x, y, n, sign, "", "CPAZSO", ALL)
                self.check(row, 42, size, x, y, n, sign, set_flags, "", ALL)

    def test_of_itself(self):
        for op, size, n, begun, expected in ((40, 2, 1, 0x1122334455667788, 0x1122334455660088),
                                             (41, 2, 1, 0x1122334455667788, 0x112233445566FF88),
                                             (42, 4, 2, 0x1122334455667788, 0x0000000000007788),
                                             (41, 4, 1, 0x1122334455667788, 0x00000000FFFFFF88),
                                             (40, 8, 4, 0x1122334485667788, 0x0000000085667788),
                                             (41, 8, 4, 0x1122334485667788, 0xFFFFFFFF85667788)):
            told, registers, flags_after = after(changed(FILLED, {D: begun}), 0, [[DO, op, size, D, D, n]])
            self.assertEqual((told, registers), ([[0]], changed(FILLED, {D: expected})))


class OtherBits(unittest.TestCase):
    """Which bits of a register an operation leaves, with whole numbers of 64 bits."""

    BEGUN = {D: 0x1122334455667788, S: 0x99AABBCCDDEEFF01}

    def check(self, op, size, n, new):
        registers = changed(FILLED, self.BEGUN)
        told, registers_after, flags_after = after(registers, 0, [[DO, op, size, D, S, n]])
        self.assertEqual((op, size, told), (op, size, [[0]]))
        self.assertEqual([hex(number) for number in registers_after],
                         [hex(number) for number in changed(registers, new)])

    def test_they_stay_for_8_and_16_and_are_0_for_32(self):
        self.check(0, 1, 0, {D: 0x1122334455667701})
        self.check(0, 2, 0, {D: 0x112233445566FF01})
        self.check(0, 4, 0, {D: 0x00000000DDEEFF01})
        self.check(0, 8, 0, {D: 0x99AABBCCDDEEFF01})
        self.check(13, 1, 0, {D: 0x1122334455667777})
        self.check(13, 2, 0, {D: 0x1122334455668877})
        self.check(13, 4, 0, {D: 0x00000000AA998877})
        self.check(13, 8, 0, {D: 0xEEDDCCBBAA998877})
        self.check(37, 1, 0, {D: 0x1122334455667701, S: 0x99AABBCCDDEEFF88})
        self.check(37, 2, 0, {D: 0x112233445566FF01, S: 0x99AABBCCDDEE7788})
        self.check(37, 4, 0, {D: 0x00000000DDEEFF01, S: 0x0000000055667788})
        self.check(29, 4, 0, {D: 21})
        self.check(27, 4, 0, {D: 0})
        self.check(28, 2, 0, {D: 0x112233445566000F})
        self.check(36, 1, 1, {D: 0x1122334455667701})
        self.check(30, 4, 0, {D: 0x0000000088776655})
        self.check(32, 4, 0, {D: 0x0000000055667789})
        self.check(23, 1, 0, {D: 0x1122334455667788, S: 0x99AABBCCDDEEFF00})

    def test_they_stay_where_nothing_is_written(self):
        for size in SIZES:
            for op, n in ((5, 0), (9, 0), (14, 0), (17, 64), (31, 3)):
                self.check(op, size, n, {})

    def test_each_register_can_be_d_and_s(self):
        for d in PLACES:
            for s in PLACES:
                registers = changed(FILLED, {d: 5}) if d == s else changed(FILLED, {d: 5, s: 9})
                expected = changed(registers, {d: 10 if d == s else 14})
                self.assertEqual(after(registers, 0, [[DO, 1, 8, d, s, 0]])[:2], ([[0]], expected))


if __name__ == "__main__":
    unittest.main()

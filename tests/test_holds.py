"""The call holds: each condition, by the flags that it speaks of."""

import unittest

from helper import (ALL_FLAGS, DO, FILLED, FLAGS, HIGHEST_INT, HOLDS, LOWEST_INT, PUT, after, each,
                    every_choice_of_flags, flags)

# The even condition, the flags that it speaks of, and those choices of them for which it holds.
CONDITIONS = (
    (0, "O", ("O",)),
    (2, "C", ("C",)),
    (4, "Z", ("Z",)),
    (6, "CZ", ("C", "Z", "CZ")),
    (8, "S", ("S",)),
    (10, "P", ("P",)),
    (12, "SO", ("S", "O")),
    (14, "ZSO", ("S", "O", "Z", "ZS", "ZO", "ZSO")),
)
NO_CONDITIONS = (-1, 16, LOWEST_INT, HIGHEST_INT, -2, -14, -15, -16, 17, 18, 30, 31, 32, 255, 256)


def holding(spoken, choices):
    """For each number of flags, whether those that are spoken of are one of the choices."""
    wanted = [flags(choice) for choice in choices]
    return [(number, 1 if number & flags(spoken) in wanted else 0) for number in every_choice_of_flags()]


class Holds(unittest.TestCase):
    def test_each_condition_at_the_beginning(self):
        for condition in range(16):
            self.assertEqual(each([[HOLDS, condition]]), [[condition % 2]])

    def test_each_condition_with_each_choice_of_flags(self):
        for condition, spoken, choices in CONDITIONS:
            for number, expected in holding(spoken, choices):
                with self.subTest(condition=condition, number=number):
                    self.assertEqual(each([[PUT, number], [HOLDS, condition], [HOLDS, condition + 1]]),
                                     [[0], [expected], [1 - expected]])

    def test_some_choices_of_flags_with_each_condition(self):
        for letters, even in (
                ("", ()),
                ("O", (0, 12, 14)),
                ("C", (2, 6)),
                ("Z", (4, 6, 14)),
                ("S", (8, 12, 14)),
                ("P", (10,)),
                ("A", ()),
                ("SO", (0, 8)),
                ("ZSO", (0, 4, 6, 8, 14)),
                ("CPAZSO", (0, 2, 4, 6, 8, 10, 14))):
            expected = [[int((condition - condition % 2 in even) != (condition % 2 == 1))] for condition in range(16)]
            with self.subTest(letters=letters):
                self.assertEqual(each([[PUT, flags(letters)]] + [[HOLDS, c] for c in range(16)])[1:], expected)

    def test_a_number_that_is_no_condition(self):
        for condition in NO_CONDITIONS:
            for number in (0, ALL_FLAGS):
                self.assertEqual(each([[PUT, number], [HOLDS, condition]]), [[0], [2]])

    def test_nothing_changes(self):
        for condition in tuple(range(16)) + NO_CONDITIONS:
            for number in (0, ALL_FLAGS, 1, 2048, 64):
                told, registers, flags_after = after(FILLED, number, [[HOLDS, condition], [FLAGS], [HOLDS, condition]])
                self.assertEqual((registers, flags_after), (FILLED, number))
                self.assertEqual(told[1], [number])
                self.assertEqual(told[0], told[2])

    def test_the_flags_of_an_operation(self):
        # 0 - 1: C, A, S, P are set, Z and O not.
        told = after([0, 1] + [0] * 14, 0, [[DO, 3, 1, 0, 1, 0]] + [[HOLDS, condition] for condition in range(16)])[0]
        self.assertEqual(told, [[0]] + [[int(sign)] for sign in "0110011010101010"])


if __name__ == "__main__":
    unittest.main()

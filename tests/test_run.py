"""The call run: where it ends, what it answers, and what has changed."""

import unittest

from helper import ALL_FLAGS, DO, FILLED, FLAGS, GET, HOLDS, PUT, RUN, SET, after, changed, each, flags, run_of

MORE = [10, 8, 1, 0, 0]
TRAP = [25, 8, 1, 2, 15]
REFUSED = [43, 8, 1, 2, 0]
ZEROS = [0] * 16


class Run(unittest.TestCase):
    def test_no_record(self):
        for before in (0, ALL_FLAGS):
            self.assertEqual(after(FILLED, before, [[RUN, 0]]), ([[0, 0]], FILLED, before))
            self.assertEqual(after(FILLED, before, [[RUN, 0], [RUN, 0]]), ([[0, 0], [0, 0]], FILLED, before))

    def test_records_done_to_the_end(self):
        for many in (1, 2, 3, 79, 80):
            told, registers, flags_after = after(ZEROS, 0, [run_of(*[MORE] * many)])
            self.assertEqual((told, registers), ([[0, many]], changed(ZEROS, {1: many})))

    def test_different_records_one_behind_another(self):
        # 6 + 1 = 7; 7 + 7 = 14; 14 * 7 = 98 with 0 above it in register 2.
        told, registers, flags_after = after(
            changed(ZEROS, {1: 6, 2: 7}), 0, [run_of(MORE, [1, 8, 1, 2, 0], [23, 8, 1, 2, 0], [0, 8, 9, 1, 0])])
        self.assertEqual((told, registers, flags_after), ([[0, 4]], changed(ZEROS, {1: 98, 9: 98}), 0))

    def test_one_that_traps(self):
        for done in (0, 1, 2, 40, 79):
            for behind in (0, 79 - done):
                run = run_of(*[MORE] * done + [TRAP] + [MORE] * behind)
                told, registers, flags_after = after(changed(ZEROS, {1: 4}), flags("C"), [run])
                self.assertEqual((told, registers), ([[1, done]], changed(ZEROS, {1: 4 + done})))
                self.assertEqual(flags_after & 1, 1)

    def test_one_that_is_refused(self):
        for refused in (REFUSED, [10, 3, 1, 0, 0], [10, 8, 16, 0, 0], [10, 8, 1, 255, 0], [255, 255, 255, 255, 255],
                        [21, 1, 1, 2, 0], [21, 2, 1, 2, 17], [25, 8, 1, 2, 16], [30, 2, 1, 2, 0], [35, 1, 1, 2, 0],
                        [35, 2, 1, 2, 16], [36, 2, 1, 2, 0], [36, 1, 1, 2, 16], [40, 8, 1, 2, 8], [41, 1, 1, 2, 1],
                        [42, 4, 1, 2, 3]):
            for done in (0, 1, 5):
                told, registers, flags_after = after(
                    changed(ZEROS, {1: 4}), 0, [run_of(*[MORE] * done + [refused] + [MORE] * 3)])
                self.assertEqual((refused, told, registers), (refused, [[2, done]], changed(ZEROS, {1: 4 + done})))

    def test_the_first_that_is_not_done_ends_it(self):
        self.assertEqual(each([run_of(MORE, TRAP, REFUSED), [GET, 1]]), [[1, 1], [0, 1]])
        self.assertEqual(each([run_of(MORE, REFUSED, TRAP), [GET, 1]]), [[2, 1], [0, 1]])

    def test_what_was_done_before_stays_the_flags_too(self):
        # 255 + 1: A, Z, P; C stays.
        told, registers, flags_after = after(
            changed(ZEROS, {1: 255}), flags("CSO"), [run_of([10, 1, 1, 0, 0], TRAP, [6, 1, 1, 1, 0])])
        self.assertEqual((told, registers, flags_after), ([[1, 1]], ZEROS, flags("CAZP")))

    def test_counts_that_are_not_a_multiple_of_5(self):
        for many in (1, 2, 3, 4, 6, 7, 8, 9, 11, 394, 396, 399):
            prog = (MORE * 80)[:many]
            for before in (0, ALL_FLAGS):
                self.assertEqual(after(FILLED, before, [[RUN, many] + prog]), ([[3]], FILLED, before))

    def test_400_numbers(self):
        self.assertEqual(each([[RUN, 400] + MORE * 80, [GET, 1]]), [[0, 80], [0, 80]])
        self.assertEqual(each([[RUN, 400] + MORE * 79 + TRAP, [GET, 1]]), [[1, 79], [0, 79]])
        self.assertEqual(each([[RUN, 400] + MORE * 79 + REFUSED, [GET, 1]]), [[2, 79], [0, 79]])
        self.assertEqual(each([[RUN, 395] + MORE * 79, [GET, 1]]), [[0, 79], [0, 79]])

    def test_flags_go_from_one_record_to_the_next(self):
        # A number of 16 bits from two of 8: 0x01FF + 0x0001 in registers 1 and 2, 3 and 4.
        told, registers, flags_after = after(
            changed(ZEROS, {1: 0xFF, 2: 0x01, 3: 0x01}), 0, [run_of([1, 1, 1, 3, 0], [2, 1, 2, 4, 0])])
        self.assertEqual((told, registers, flags_after), ([[0, 2]], changed(ZEROS, {2: 2, 3: 1}), 0))
        # 3 - 5: C, so condition 2 holds; then C through the turn becomes the lowest bit.
        told, registers, flags_after = after(
            changed(ZEROS, {1: 3, 2: 5}), 0, [run_of([5, 1, 1, 2, 0], [36, 1, 7, 0, 2], [19, 1, 8, 0, 1])])
        self.assertEqual((told, registers), ([[0, 3]], changed(ZEROS, {1: 3, 2: 5, 7: 1, 8: 1})))

    def test_n_up_to_255(self):
        # 255 modulo 64 is 63; 255 modulo 8 is 7.
        self.assertEqual(each([[SET, 1, 1], run_of([14, 8, 1, 0, 255]), [GET, 1]]), [[0], [0, 1], [0, 1 << 63]])
        self.assertEqual(each([run_of([32, 1, 1, 0, 255]), [GET, 1]]), [[0, 1], [0, 128]])

    def test_between_other_calls(self):
        self.assertEqual(each([[SET, 1, 255], [PUT, 1], [HOLDS, 2], run_of([2, 1, 1, 0, 0]), [HOLDS, 4], [FLAGS],
                               [GET, 1], [RUN, 6, 10, 8, 1, 0, 0, 10], [GET, 1], run_of(MORE, REFUSED), [DO, 10, 8, 1, 0, 0],
                               [GET, 1], run_of(MORE, TRAP, MORE), [GET, 1], [RUN, 0], [GET, 1]]),
                         [[0], [0], [1], [0, 1], [1], [flags("CAZP")], [0, 0],
                          [3], [0, 0], [2, 1], [0],
                          [0, 2], [1, 1], [0, 3], [0, 0], [0, 3]])

    def test_as_do_does_it(self):
        records = [[1, 1, 1, 2, 0], [14, 4, 3, 0, 5], [24, 2, 4, 5, 0], [39, 8, 6, 7, 0], [42, 8, 8, 9, 4],
                   [20, 2, 10, 0, 3], [4, 8, 11, 12, 0], [35, 2, 13, 14, 7], [29, 8, 15, 1, 0], [37, 4, 2, 3, 0]]
        one_by_one = after(FILLED, flags("C"), [[DO] + record for record in records])
        at_once = after(FILLED, flags("C"), [run_of(*records)])
        self.assertEqual(one_by_one[0], [[0]] * 10)
        self.assertEqual(at_once[0], [[0, 10]])
        self.assertEqual(at_once[1:], one_by_one[1:])


if __name__ == "__main__":
    unittest.main()

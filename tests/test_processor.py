"""The calls set, get, flags and put, and for all calls the form of what answers takes and gives back."""

import builtins
import contextlib
import io
import unittest
from unittest import mock

from helper import (ALL_FLAGS, DO, FLAGS, GET, HOLDS, PLACES, PUT, RUN, SET, SIX_FLAGS, TOP, WRONG_PLACES,
                    all_registers, each, every_choice_of_flags, flags, joined, run_of)
from wholeops.processor import answers

NUMBERS = (0, 1, 2, 15, 16, 255, 256, 65535, 65536, 2147483647, 2147483648, 4294967295, 4294967296,
           9223372036854775807, 9223372036854775808, 12297829382473034410, TOP - 1, TOP)


class Guarded(list):
    """A list that fails as soon as somebody changes it, if only for a while."""

    def refuse(self, *args, **kwargs):
        raise AssertionError("what is handed in was changed")

    append = clear = extend = insert = pop = remove = reverse = sort = refuse
    __setitem__ = __delitem__ = __iadd__ = __imul__ = refuse


class Beginning(unittest.TestCase):
    def test_every_register_is_0(self):
        for r in PLACES:
            self.assertEqual(answers([GET, r]), [2, 0, 0])
        self.assertEqual(each(all_registers()), [[0, 0]] * 16)

    def test_no_flag_is_set(self):
        self.assertEqual(answers([FLAGS]), [1, 0])


class SetAndGet(unittest.TestCase):
    def test_each_register_has_what_it_was_set_to(self):
        for r in PLACES:
            for v in NUMBERS:
                with self.subTest(r=r, v=v):
                    self.assertEqual(answers([SET, r, v, GET, r]), [1, 0, 2, 0, v])

    def test_every_single_bit_is_kept(self):
        for bit in range(64):
            self.assertEqual(answers([SET, 15, 1 << bit, GET, 15]), [1, 0, 2, 0, 1 << bit])

    def test_a_later_set_takes_the_place_of_an_earlier_one(self):
        for r in PLACES:
            self.assertEqual(each([[SET, r, TOP], [SET, r, 6], [GET, r], [SET, r, 0], [GET, r]]),
                             [[0], [0], [0, 6], [0], [0, 0]])

    def test_set_changes_that_register_alone(self):
        for r in PLACES:
            expected = [[0, TOP if other == r else 0] for other in PLACES]
            self.assertEqual(each([[SET, r, TOP]] + all_registers())[1:], expected)

    def test_registers_keep_their_numbers_while_others_are_set(self):
        calls = [[SET, r, NUMBERS[r]] for r in PLACES]
        for r in PLACES:
            changed = calls + [[SET, r, 77]] + all_registers()
            expected = [[0, 77 if other == r else NUMBERS[other]] for other in PLACES]
            self.assertEqual(each(changed)[17:], expected)

    def test_get_changes_nothing(self):
        calls = [[SET, 5, 9], [PUT, 65], [GET, 5], [GET, 5], [GET, 16], [GET, 5], [FLAGS]]
        self.assertEqual(each(calls), [[0], [0], [0, 9], [0, 9], [2], [0, 9], [65]])


class WrongRegister(unittest.TestCase):
    def test_set_answers_2(self):
        for r in WRONG_PLACES:
            for v in (0, 1, TOP):
                self.assertEqual(answers([SET, r, v]), [1, 2])

    def test_get_answers_2_alone(self):
        for r in WRONG_PLACES:
            self.assertEqual(answers([GET, r]), [1, 2])

    def test_nothing_has_changed(self):
        calls = [[SET, r, NUMBERS[r]] for r in PLACES] + [[PUT, 2116]]
        for r in WRONG_PLACES:
            with self.subTest(r=r):
                tried = each(calls + [[SET, r, 99], [GET, r]] + all_registers() + [[FLAGS]])
                self.assertEqual(tried[17:19], [[2], [2]])
                self.assertEqual(tried[19:35], [[0, NUMBERS[place]] for place in PLACES])
                self.assertEqual(tried[35], [2116])

    def test_the_calls_behind_a_refused_one_are_made(self):
        self.assertEqual(each([[SET, 16, 5], [SET, 1, 6], [GET, -1], [GET, 1]]), [[2], [0], [2], [0, 6]])


class PutAndFlags(unittest.TestCase):
    def test_each_flag_alone(self):
        for number in SIX_FLAGS:
            self.assertEqual(answers([PUT, number, FLAGS]), [1, 0, 1, number])

    def test_every_choice_of_flags(self):
        for number in every_choice_of_flags():
            self.assertEqual(answers([PUT, number, FLAGS]), [1, 0, 1, number])

    def test_all_together_and_none(self):
        self.assertEqual(answers([PUT, ALL_FLAGS, FLAGS, PUT, 0, FLAGS]), [1, 0, 1, ALL_FLAGS, 1, 0, 1, 0])

    def test_other_bits_alone_set_nothing(self):
        for bit in range(32):
            number = 1 << bit
            expected = number if number in SIX_FLAGS else 0
            self.assertEqual(answers([PUT, number, FLAGS]), [1, 0, 1, expected])
        self.assertEqual(answers([PUT, 4294967295 - ALL_FLAGS, FLAGS]), [1, 0, 1, 0])

    def test_other_bits_beside_flags_take_nothing_away(self):
        for number in SIX_FLAGS:
            self.assertEqual(answers([PUT, 4294967295 - ALL_FLAGS + number, FLAGS]), [1, 0, 1, number])
            self.assertEqual(answers([PUT, 4294967295 - number, FLAGS]), [1, 0, 1, ALL_FLAGS - number])
        self.assertEqual(answers([PUT, 4294967295, FLAGS]), [1, 0, 1, ALL_FLAGS])

    def test_a_later_put_clears_the_flags_that_are_not_in_it(self):
        for number in SIX_FLAGS:
            self.assertEqual(each([[PUT, ALL_FLAGS], [PUT, number], [FLAGS]]), [[0], [0], [number]])
            self.assertEqual(each([[PUT, number], [PUT, ALL_FLAGS - number], [FLAGS]]),
                             [[0], [0], [ALL_FLAGS - number]])
        self.assertEqual(each([[PUT, ALL_FLAGS], [PUT, 2], [FLAGS]]), [[0], [0], [0]])

    def test_flags_changes_nothing(self):
        self.assertEqual(each([[PUT, 129], [FLAGS], [FLAGS], [FLAGS]]), [[0], [129], [129], [129]])

    def test_put_changes_no_register(self):
        calls = [[SET, r, NUMBERS[r]] for r in PLACES]
        for number in (0, ALL_FLAGS, 4294967295) + SIX_FLAGS:
            self.assertEqual(each(calls + [[PUT, number]] + all_registers())[17:],
                             [[0, NUMBERS[r]] for r in PLACES])

    def test_set_changes_no_flag(self):
        for number in (0, ALL_FLAGS) + SIX_FLAGS:
            for r in PLACES:
                for v in (0, 1, TOP):
                    self.assertEqual(answers([PUT, number, SET, r, v, FLAGS]), [1, 0, 1, 0, 1, number])


class TheList(unittest.TestCase):
    def test_the_whole_form_of_several_calls(self):
        self.assertEqual(answers([0, 3, 7, 1, 3, 2, 3, 4294967295, 2, 1, 16]),
                         [1, 0, 2, 0, 7, 1, 0, 1, 0, 1, 2261, 1, 2])

    def test_lists_of_1_call(self):
        self.assertEqual(answers([SET, 0, TOP]), [1, 0])
        self.assertEqual(answers([SET, 16, TOP]), [1, 2])
        self.assertEqual(answers([GET, 15]), [2, 0, 0])
        self.assertEqual(answers([FLAGS]), [1, 0])
        self.assertEqual(answers([PUT, 4294967295]), [1, 0])

    def test_lists_of_80_calls(self):
        self.assertEqual(answers([FLAGS] * 80), [1, 0] * 80)
        self.assertEqual(answers([GET, 0] * 80), [2, 0, 0] * 80)
        self.assertEqual(answers([SET, 15, TOP] * 79 + [GET, 15]), [1, 0] * 79 + [2, 0, TOP])
        self.assertEqual(answers([SET, 2, 3, GET, 2, PUT, 1, FLAGS] * 20), [1, 0, 2, 0, 3, 1, 0, 1, 1] * 20)

    def test_the_whole_form_of_the_later_calls(self):
        self.assertEqual(answers([4, 0, 4, 1, 4, 16]), [1, 0, 1, 1, 1, 2])
        self.assertEqual(answers([5, 0, 8, 0, 0, 0, 5, 25, 8, 0, 0, 0, 5, 43, 8, 0, 0, 0]), [1, 0, 1, 1, 1, 2])
        self.assertEqual(answers([6, 0, 6, 1, 0, 6, 5, 10, 8, 0, 0, 0, 6, 5, 25, 8, 0, 1, 1, 6, 5, 43, 8, 0, 0, 0]),
                         [2, 0, 0, 1, 3, 2, 0, 1, 2, 1, 0, 2, 2, 0])

    def test_lists_of_1_later_call(self):
        self.assertEqual(answers([HOLDS, 15]), [1, 1])
        self.assertEqual(answers([DO, 10, 8, 15, 15, 0]), [1, 0])
        self.assertEqual(answers([RUN, 0]), [2, 0, 0])
        self.assertEqual(answers([RUN, 400] + [10, 8, 15, 15, 0] * 80), [2, 0, 80])

    def test_80_calls_of_all_seven_kinds(self):
        ten = [([SET, 1, 254], [0]),
               ([DO, 10, 1, 1, 0, 0], [0]),
               ([FLAGS], None),
               (run_of([10, 1, 1, 0, 0], [2, 2, 2, 1, 0]), [0, 2]),
               ([HOLDS, 4], None),
               ([GET, 1], [0, 0]),
               ([DO, 25, 8, 2, 1, 1], [1]),
               ([DO, 36, 2, 2, 1, 1], [2]),
               ([PUT, 1], [0]),
               ([RUN, 4, 0, 8, 0, 0], [3])]
        calls, expected = [], []
        for turn in range(8):
            calls.extend(call for call, answer in ten)
            expected.extend(list(answer) for call, answer in ten if answer is not None)
            # C is set by the put before this turn, if there was one; register 2 gets 0 + C and isn't 0 then.
            expected.insert(10 * turn + 2, [flags("CSP" if turn else "SP")])
            expected.insert(10 * turn + 4, [0 if turn else 1])
        self.assertEqual(len(calls), 80)
        self.assertEqual(each(calls), expected)
        self.assertEqual(each(calls), expected)

    def test_the_longest_list(self):
        more = [10, 8, 1, 0, 0]
        calls = [run_of(*[more] * 39)] * 78 + [run_of(*[more] * 46), run_of(*[more] * 80)]
        self.assertEqual((len(calls), len(joined(calls))), (80, 16000))
        self.assertEqual(each(calls), [[0, 39]] * 78 + [[0, 46], [0, 80]])

    def test_arguments_are_not_taken_for_calls(self):
        calls = [[SET, 1, 3], [GET, 1], [SET, 2, 0], [SET, 3, 2], [GET, 2], [GET, 3], [PUT, 1], [FLAGS]]
        self.assertEqual(each(calls), [[0], [0, 3], [0], [0], [0, 0], [0, 2], [0], [1]])

    def test_answers_are_a_list_of_whole_numbers(self):
        calls = [[SET, 0, 1], [GET, 0], [SET, 16, 1], [GET, 16], [PUT, 1], [FLAGS], [HOLDS, 2], [HOLDS, 3], [HOLDS, 16],
                 [DO, 36, 1, 0, 0, 2], [GET, 0], [DO, 25, 1, 0, 1, 2], [DO, 43, 1, 0, 0, 0],
                 run_of([36, 1, 0, 0, 3], [25, 1, 0, 1, 2]), [GET, 0], [FLAGS], [RUN, 1, 0]]
        given = answers(joined(calls))
        self.assertIs(type(given), list)
        for number in given:
            self.assertIs(type(number), int)

    def test_what_is_handed_in_stays_as_it_is(self):
        calls = joined([[SET, 3, 7], [GET, 3], [FLAGS], [PUT, 4294967295], [FLAGS], [GET, 16], [SET, -1, 4], [HOLDS, 5],
                        [DO, 1, 4, 3, 3, 0], [DO, 25, 8, 3, 3, 3], [DO, 0, 3, 0, 0, 0], [RUN, 3, 1, 1, 1],
                        run_of([10, 1, 3, 3, 0], [3, 2, 3, 3, 0], [25, 2, 3, 3, 3], [0, 1, 1, 1, 1])])
        before = list(calls)
        given = answers(calls)
        self.assertEqual(calls, before)
        self.assertIsNot(given, calls)
        self.assertEqual(answers(Guarded(calls)), given)

    def test_nothing_is_kept(self):
        # 8 + 8 = 16, then 17 and 18: no flag but P is set, by 17 and by 18, which have two ones each.
        calls = joined([[GET, 4], [FLAGS], [SET, 4, 8], [PUT, 64], [GET, 4], [FLAGS], [DO, 1, 1, 4, 4, 0], [GET, 4],
                        run_of([10, 1, 4, 0, 0], [10, 1, 4, 0, 0]), [HOLDS, 10], [FLAGS], [GET, 4]])
        expected = [2, 0, 0, 1, 0, 1, 0, 1, 0, 2, 0, 8, 1, 64, 1, 0, 2, 0, 16, 2, 0, 2, 1, 1, 1, 4, 2, 0, 18]
        first = answers(calls)
        self.assertEqual(first, expected)
        self.assertEqual(answers(calls), expected)
        first.append(5)
        answers([SET, 4, TOP, PUT, 2261])
        self.assertEqual(answers(calls), expected)

    def test_it_prints_reads_and_imports_nothing(self):
        def refuse(*args, **kwargs):
            raise AssertionError("something was read or imported")

        out, err = io.StringIO(), io.StringIO()
        with contextlib.redirect_stdout(out), contextlib.redirect_stderr(err), \
                mock.patch.object(builtins, "open", refuse), mock.patch.object(builtins, "input", refuse), \
                mock.patch.object(builtins, "__import__", refuse):
            given = answers([SET, 1, 2, GET, 1, PUT, 1, FLAGS, GET, 16, HOLDS, 2, DO, 10, 8, 1, 1, 0,
                             RUN, 5, 23, 8, 1, 1, 0])
        self.assertEqual(given, [1, 0, 2, 0, 2, 1, 0, 1, 1, 1, 2, 1, 1, 1, 0, 2, 0, 1])
        self.assertEqual(out.getvalue() + err.getvalue(), "")


if __name__ == "__main__":
    unittest.main()

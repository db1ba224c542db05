"""The interface: how calls are written, what is given back, that nothing is changed or kept."""

import io
import unittest
from contextlib import redirect_stderr, redirect_stdout

from helper import (
    BEGIN, GREATEST, LEAST, Unchanging, apart, best, following, likely, row, sign, size, start, step, total,
)
from hiddenstates.models import answers

MIXED = row([
    BEGIN, start(0, 1), size(2, 3), start(1, 65535), step(1, 0, 65536), sign(1, 2, 4), sign(2, 1, 4),
    size(17, 1), BEGIN, total([0, 1]), size(1, 1), start(0, 3),
])
MIXED_TOLD = [1, 0, 1, -4, 1, 0, 1, 0, 1, -1, 1, 0, 1, -1, 1, -1, 1, 0, 1, -4, 1, 0, 1, 0]


class Form(unittest.TestCase):
    def test_begin_alone(self):
        self.assertEqual(answers([0]), [1, 0])

    def test_several_calls(self):
        self.assertEqual(answers(MIXED), MIXED_TOLD)

    def test_written_out(self):
        self.assertEqual(answers([0, 1, 2, 1, 2, 1, 5, 3, 1, 0, 6, 4, 1, 1, 7]), [1, 0, 1, 0, 1, 0, 1, 0, 1, -1])

    def test_a_refused_call_is_read_to_its_end(self):
        for call in (start(LEAST, GREATEST), step(0, 1, 2), sign(3, 2, 1), size(0, 0)):
            with self.subTest(call=call):
                told = answers(row([BEGIN, call, size(1, 1), start(0, 1), start(1, 1)]))
                self.assertEqual(told[4:], [1, 0, 1, 0, 1, -1])

    def test_a_row_is_read_to_its_end(self):
        # These rows look like calls themselves, so a row that is not passed over shows.
        for signs in ([], [0], [1], [1, 2, 3], [8, 8], [0] * 64, [5] * 64, [255] * 64):
            for call in (total(signs), best(signs), likely(1, 2, signs), following(1, signs)):
                with self.subTest(call=call):
                    told = answers(row([BEGIN, call, size(1, 1), start(0, 1), start(1, 1)]))
                    self.assertEqual(told, [1, 0, 1, -4, 1, 0, 1, 0, 1, -1])

    def test_rows_written_out(self):
        # One state, weights of start 3, step 2 and sign 5: totals of 15 and, of two signs, 150.
        model = [0, 1, 1, 1, 2, 0, 3, 3, 0, 0, 2, 4, 0, 0, 5]
        told = answers(model + [5, 2, 0, 0, 6, 2, 0, 0, 7, 1, 0, 2, 0, 0, 8, 0, 2, 0, 0])
        fraction = [641, 0] + [1] + [0] * 319 + [1] + [0] * 319
        self.assertEqual(told, [1, 0] * 5 + [321, 0, 150] + [0] * 319 + [65, 0, 0, 0] + [255] * 62 + fraction * 2)

    def test_place_and_state_in_their_order(self):
        model = [BEGIN, size(2, 3), start(1, 1), step(1, 0, 1), sign(1, 0, 1), sign(0, 2, 1)]
        told = apart(answers(row(model + [[7, 0, 1, 2, 0, 2], [7, 1, 0, 2, 0, 2], [7, 0, 0, 2, 0, 2]])))
        self.assertEqual([answer[:2] for answer in told[-3:]], [[0, 1], [0, 1], [0, 0]])

    def test_a_row_is_read_to_its_end_where_there_is_a_model(self):
        # Signs 0 to 8 look like calls themselves, so a row that is not passed over shows.
        model = [BEGIN, size(1, 9), start(0, 1), step(0, 0, 1)] + [sign(0, shown, 1) for shown in range(9)]
        for signs in ([], [0], [1, 2, 3], [8, 8], [9], [0, 255], [0] * 64, [5] * 64, [9] * 64):
            for call in (total(signs), best(signs), likely(0, 0, signs), following(1, signs), likely(64, 5, signs)):
                with self.subTest(call=call):
                    told = apart(answers(row(model + [call, start(1, 1), BEGIN, start(0, 1)])))
                    self.assertEqual(told[:len(model)] + told[len(model) + 1:], [[0]] * len(model) + [[-1], [0], [-4]])

    def test_a_row_at_the_end(self):
        for call in (total([1, 2]), best([]), likely(0, 0, [255]), following(0, [0] * 64)):
            with self.subTest(call=call):
                self.assertEqual(answers(row([BEGIN, call])), [1, 0, 1, -4])

    def test_400_calls(self):
        calls = [BEGIN, size(16, 16)] + [step(15, 15, 65535)] * 398
        self.assertEqual(answers(row(calls)), [1, 0] * 400)

    def test_400_calls_with_the_longest_rows(self):
        calls = [BEGIN] + [best([255] * 64)] * 399
        self.assertEqual(answers(row(calls)), [1, 0] + [1, -4] * 399)

    def test_gives_back_whole_numbers_in_a_list(self):
        told = answers(list(MIXED))
        self.assertIs(type(told), list)
        self.assertEqual({type(number) for number in told}, {int})


class Untouched(unittest.TestCase):
    def test_the_list_is_as_it_was(self):
        calls = list(MIXED)
        answers(calls)
        self.assertEqual(calls, MIXED)

    def test_the_list_is_not_changed_for_a_while_either(self):
        self.assertEqual(answers(Unchanging(MIXED)), MIXED_TOLD)

    def test_what_is_given_back_is_a_list_of_its_own(self):
        calls = list(MIXED)
        told = answers(calls)
        told.clear()
        self.assertEqual(calls, MIXED)
        self.assertEqual(answers(calls), MIXED_TOLD)

    def test_twice_the_same(self):
        calls = list(MIXED)
        self.assertEqual(answers(calls), MIXED_TOLD)
        self.assertEqual(answers(calls), MIXED_TOLD)

    def test_no_model_is_kept_for_the_next_list(self):
        answers(row([BEGIN, size(2, 2)]))
        self.assertEqual(answers(row([BEGIN, start(0, 1)])), [1, 0, 1, -4])
        # Without begin too, so that it is not begin alone that clears the line.
        answers(row([BEGIN, size(2, 2)]))
        self.assertEqual(answers(start(0, 1)), [1, -4])

    def test_prints_nothing(self):
        out, err = io.StringIO(), io.StringIO()
        with redirect_stdout(out), redirect_stderr(err):
            answers(list(MIXED))
        self.assertEqual((out.getvalue(), err.getvalue()), ("", ""))


if __name__ == "__main__":
    unittest.main()

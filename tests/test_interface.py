"""The interface: how calls are written, what is given back, that nothing is changed or kept."""

import io
import unittest
from contextlib import redirect_stderr, redirect_stdout

from helper import BEGIN, GREATEST, LEAST, best, following, likely, row, sign, size, start, step, total
from hiddenstates.models import NotBuilt, answers

MIXED = row([
    BEGIN, start(0, 1), size(2, 3), start(1, 65535), step(1, 0, 65536), sign(1, 2, 4), sign(2, 1, 4),
    size(17, 1), BEGIN, total([0, 1]), size(1, 1), start(0, 3),
])
MIXED_TOLD = [1, 0, 1, -4, 1, 0, 1, 0, 1, -1, 1, 0, 1, -1, 1, -1, 1, 0, 1, -4, 1, 0, 1, 0]


def refuse(*args, **kwargs):
    raise AssertionError("the list was changed")


class Unchanging(list):
    """A list at which every change fails, one that is taken back too."""

    append = extend = insert = pop = remove = clear = sort = reverse = refuse
    __setitem__ = __delitem__ = __iadd__ = __imul__ = refuse


class Form(unittest.TestCase):
    def test_begin_alone(self):
        self.assertEqual(answers([0]), [1, 0])

    def test_several_calls(self):
        self.assertEqual(answers(MIXED), MIXED_TOLD)

    def test_written_out(self):
        self.assertEqual(answers([0, 1, 2, 1, 2, 1, 5, 3, 1, 0, 6, 4, 1, 1, 7]), [1, 0, 1, 0, 1, 0, 1, 0, 1, -1])

    def test_a_refused_call_is_read_to_its_end(self):
        for call in (start(LEAST, GREATEST), step(0, 1, 2), sign(3, 2, 1), size(0, 0)):
            with self.subTest(call=call):
                told = answers(row([BEGIN, call, size(1, 1), start(0, 1), start(1, 1)]))
                self.assertEqual(told[4:], [1, 0, 1, 0, 1, -1])

    def test_a_row_is_read_to_its_end(self):
        # These rows look like calls themselves, so a row that is not passed over shows.
        for signs in ([], [0], [1], [1, 2, 3], [8, 8], [0] * 64, [5] * 64, [255] * 64):
            for call in (total(signs), best(signs), likely(1, 2, signs), following(1, signs)):
                with self.subTest(call=call):
                    told = answers(row([BEGIN, call, size(1, 1), start(0, 1), start(1, 1)]))
                    self.assertEqual(told, [1, 0, 1, -4, 1, 0, 1, 0, 1, -1])

    def test_a_row_at_the_end(self):
        for call in (total([1, 2]), best([]), likely(0, 0, [255]), following(0, [0] * 64)):
            with self.subTest(call=call):
                self.assertEqual(answers(row([BEGIN, call])), [1, 0, 1, -4])

    def test_400_calls(self):
        calls = [BEGIN, size(16, 16)] + [step(15, 15, 65535)] * 398
        self.assertEqual(answers(row(calls)), [1, 0] * 400)

    def test_400_calls_with_the_longest_rows(self):
        calls = [BEGIN] + [best([255] * 64)] * 399
        self.assertEqual(answers(row(calls)), [1, 0] + [1, -4] * 399)

    def test_gives_back_whole_numbers_in_a_list(self):
        told = answers(list(MIXED))
        self.assertIs(type(told), list)
        self.assertEqual({type(number) for number in told}, {int})

    def test_a_call_not_built_yet_is_never_answered_wrongly(self):
        for call in (total([0]), best([0]), likely(0, 0, [0]), following(0, [0])):
            with self.subTest(call=call):
                with self.assertRaises(NotBuilt):
                    answers(row([BEGIN, size(1, 1), call]))


class Untouched(unittest.TestCase):
    def test_the_list_is_as_it_was(self):
        calls = list(MIXED)
        answers(calls)
        self.assertEqual(calls, MIXED)

    def test_the_list_is_not_changed_for_a_while_either(self):
        self.assertEqual(answers(Unchanging(MIXED)), MIXED_TOLD)

    def test_what_is_given_back_is_a_list_of_its_own(self):
        calls = list(MIXED)
        told = answers(calls)
        told.clear()
        self.assertEqual(calls, MIXED)
        self.assertEqual(answers(calls), MIXED_TOLD)

    def test_twice_the_same(self):
        calls = list(MIXED)
        self.assertEqual(answers(calls), MIXED_TOLD)
        self.assertEqual(answers(calls), MIXED_TOLD)

    def test_no_model_is_kept_for_the_next_list(self):
        answers(row([BEGIN, size(2, 2)]))
        self.assertEqual(answers(row([BEGIN, start(0, 1)])), [1, 0, 1, -4])
        # Without begin too, so that it is not begin alone that clears the line.
        answers(row([BEGIN, size(2, 2)]))
        self.assertEqual(answers(start(0, 1)), [1, -4])

    def test_prints_nothing(self):
        out, err = io.StringIO(), io.StringIO()
        with redirect_stdout(out), redirect_stderr(err):
            answers(list(MIXED))
        self.assertEqual((out.getvalue(), err.getvalue()), ("", ""))


if __name__ == "__main__":
    unittest.main()

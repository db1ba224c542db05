"""Point 4: what total, best, likely and next answer of a row that is wrong, and the edges of one that is right."""

import unittest

from helper import BEGIN, GREATEST, LEAST, best, following, kept, likely, sign, size, start, step, told_of, total

# Unlike numbers of states and signs, either way round, and the edges of size.
SIZES = [(3, 5), (5, 3), (1, 1), (1, 16), (16, 1), (16, 16)]


def four(signs, state, shown):
    """The four calls with one row."""
    return [total(signs), best(signs), likely(0, state, signs), following(shown, signs)]


def ones(states, signs):
    """Calls that make a model: every weight along one state is 1, with all signs."""
    calls = [BEGIN, size(states, signs), start(states - 1, 1), step(states - 1, states - 1, 1)]
    return calls + [sign(states - 1, shown, 1) for shown in range(signs)]


class Rows(unittest.TestCase):
    def check(self, calls, signs, answer):
        for state, shown in ((0, 0), (-1, -1), (GREATEST, LEAST)):
            for call in four(signs, state, shown):
                with self.subTest(calls=calls[1], call=call):
                    self.assertEqual(told_of(calls + [call])[-1], answer)

    def test_no_sign(self):
        for states, signs in SIZES:
            self.check([BEGIN, size(states, signs)], [], [-1])
            self.check(ones(states, signs), [], [-1])

    def test_more_signs_than_a_row_may_have(self):
        self.check(ones(2, 2), [0] * 65, [-1])

    def test_a_sign_that_there_is_not(self):
        for states, signs in SIZES:
            for wrong in (signs, signs + 1, 128, 255):
                for length in (1, 2, 3, 63, 64):
                    for place in {0, length // 2, length - 1}:
                        shown = [signs - 1] * length
                        shown[place] = wrong
                        self.check(ones(states, signs), shown, [-1])

    def test_a_sign_that_there_is_not_ahead_of_a_total_of_0(self):
        for states, signs in SIZES:
            self.check([BEGIN, size(states, signs)], [signs], [-1])

    def test_rows_of_1_to_64_signs(self):
        for states, signs in SIZES:
            calls = ones(states, signs)
            for length in (1, 2, 3, 63, 64):
                for shown in (0, signs - 1):
                    for call in four([shown] * length, 0, shown):
                        with self.subTest(states=states, signs=signs, call=call):
                            self.assertEqual(told_of(calls + [call])[-1][0], 0)

    def test_64_different_places(self):
        row = [place % 16 for place in range(64)]
        for call in four(row, 15, 15):
            with self.subTest(call=call):
                self.assertEqual(told_of(ones(16, 16) + [call])[-1][0], 0)

    def test_how_many_numbers_are_told(self):
        for length in (1, 64):
            told = told_of(ones(2, 3) + four([2] * length, 1, 2))[-4:]
            self.assertEqual([len(answer) for answer in told], [321, 65, 641, 641])

    def test_which_signs_there_are_changes_with_size(self):
        calls = ones(2, 5) + [total([4])] + ones(5, 2)[1:] + [total([4]), total([2]), total([1])]
        told = told_of(calls)
        self.assertEqual([answer[0] for answer in told if len(answer) > 1 or answer[0] != 0], [0, -1, -1, 0])

    def test_nothing_changes(self):
        calls = ones(3, 2)
        before = kept(calls)
        for signs in ([], [2], [0, 1], [255] * 64):
            for call in four(signs, 1, 1) + four(signs, 3, 2):
                with self.subTest(call=call):
                    self.assertEqual(kept(calls + [call]), before)


if __name__ == "__main__":
    unittest.main()

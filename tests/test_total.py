"""Point 5: total."""

import unittest

from helper import (
    BEGIN, Weights, asked, asked_of_whole, check_by_count, every_row, large, one_by_one, place_weights, sign, size,
    small_models, start, step, told_of, total,
)

ALL_65535 = Weights([65535] * 16, [[65535] * 16] * 16, [[65535] * 16] * 16)


class Total(unittest.TestCase):
    def test_by_hand(self):
        weights = Weights([1, 2], [[1, 2], [3, 4]], [[5, 6], [7, 8]])
        told = asked(weights, [total([0]), total([1]), total([0, 1])])
        self.assertEqual(told, [[0, 19] + [0] * 319, [0, 22] + [0] * 319, [0, 810 % 256, 3] + [0] * 318])

    def test_against_a_count_over_all_ways(self):
        for bound in (2, 3, 10, 65536):
            for weights, rows in small_models(bound, bound):
                check_by_count(self, weights, [total(signs) for signs in rows])

    def test_every_row_of_a_model(self):
        weights = Weights([3, 5, 0], [[2, 0, 7], [11, 1, 4], [6, 9, 0]], [[8, 1], [0, 13], [10, 17]])
        check_by_count(self, weights, [total(signs) for signs in every_row(2, 5)])

    def test_the_greatest_there_is(self):
        expected = [0] + large(65535 ** 128 * 16 ** 64)
        rows = [[0] * 64, [15] * 64, [place % 16 for place in range(64)]]
        for answer in asked_of_whole(ALL_65535, [total(signs) for signs in rows]):
            self.assertEqual(answer, expected)

    def test_the_greatest_there_is_in_one_line(self):
        # A line holds 400 calls, so only the seven signs that the row has are given a weight.
        shows = [[65535] * 7 + [0] * 9] * 16
        weights = Weights(ALL_65535.starts, ALL_65535.steps, shows)
        told = asked(weights, [total([place % 7 for place in range(64)])])
        self.assertEqual(told, [[0] + large(65535 ** 128 * 16 ** 64)])

    def test_the_bytes_of_the_greatest(self):
        # 16 ** 64 is 256 ** 32: so many bytes of 0, then those of 65535 ** 128, of which the lowest is 1.
        told = asked_of_whole(ALL_65535, [total([3] * 64)])[0]
        self.assertEqual(told[:36], [0] + [0] * 32 + [1, 0, 128])
        self.assertEqual(told[-33:], [255] + [0] * 32)
        self.assertEqual(len(told), 321)

    def test_large_models(self):
        for states, signs in [(16, 16), (16, 3), (3, 16)]:
            weights, gives, takes = one_by_one(states, signs)
            for length in (1, 2, 63, 64):
                shown = [(5 * place + place // 7) % signs for place in range(length)]
                expected = 1
                for place in range(length):
                    expected *= sum(place_weights(weights, gives, takes, shown, place))
                with self.subTest(states=states, signs=signs, length=length):
                    self.assertEqual(asked_of_whole(weights, [total(shown)]), [[0] + large(expected)])


class TotalOf0(unittest.TestCase):
    def test_is_told(self):
        nothing = [0] + [0] * 320
        for length in (1, 2, 64):
            for states, signs in [(1, 1), (3, 2), (16, 16)]:
                with self.subTest(length=length, states=states, signs=signs):
                    self.assertEqual(told_of([BEGIN, size(states, signs), total([0] * length)])[-1], nothing)

    def test_where_one_weight_is_missing(self):
        nothing = [0] + [0] * 320
        calls = [start(0, 5), step(0, 1, 5), step(1, 0, 5), sign(0, 0, 5), sign(1, 1, 5)]
        question = total([0, 1, 0])
        self.assertEqual(told_of([BEGIN, size(2, 2)] + calls + [question])[-1], [0] + large(5 ** 6))
        for left_out in range(len(calls)):
            some = calls[:left_out] + calls[left_out + 1:]
            with self.subTest(left_out=calls[left_out]):
                self.assertEqual(told_of([BEGIN, size(2, 2)] + some + [question])[-1], nothing)

    def test_with_ways_but_not_for_this_row(self):
        weights = Weights([1], [[1]], [[1, 0]])
        told = asked(weights, [total([0, 0]), total([0, 1]), total([1])])
        self.assertEqual(told, [[0] + large(1), [0] + large(0), [0] + large(0)])


if __name__ == "__main__":
    unittest.main()

"""Point 8: next."""

import unittest

from helper import (
    BEGIN, GREATEST, LEAST, Weights, asked, asked_of_whole, check_by_count, check_lowest_terms, following, large,
    one_by_one, share, sign, size, small_models, start, step, told_of,
)

HAND = Weights([1, 2], [[1, 2], [3, 4]], [[5, 6], [7, 8]])


class Next(unittest.TestCase):
    def test_by_hand(self):
        # The total of 0, 0 is 697, that of 0, 1 is 810.
        told = asked(HAND, [following(0, [0]), following(1, [0])])
        self.assertEqual(told, [[0] + large(697) + large(1507), [0] + large(810) + large(1507)])

    def test_against_a_count_over_all_ways(self):
        for bound in (2, 3, 10, 65536):
            for weights, rows in small_models(bound + 2, bound):
                questions = []
                for signs in rows[:2] + rows[-5:-1]:
                    questions += [following(shown, signs) for shown in range(weights.signs)]
                check_by_count(self, weights, questions)

    def test_one_sign_is_certain(self):
        for length in (1, 2, 64):
            weights = Weights([3, 4], [[5, 6], [7, 8]], [[9], [10]])
            self.assertEqual(asked(weights, [following(0, [0] * length)]), [[0] + large(1) + large(1)])

    def test_large_models(self):
        for states, signs in [(16, 16), (16, 3), (3, 16)]:
            weights, gives, takes = one_by_one(states, signs)
            found = []
            for shown in range(signs):
                found.append(sum(takes[state] * weights.shows[state][shown] for state in range(states)))
            for length in (1, 2, 63, 64):
                row = [(5 * place + place // 7) % signs for place in range(length)]
                told = asked_of_whole(weights, [following(shown, row) for shown in range(signs)])
                with self.subTest(states=states, signs=signs, length=length):
                    self.assertEqual(told, [share(weight, sum(found)) for weight in found])

    def test_long_fractions(self):
        # Behind 64 signs of the two ways, each state shows a sign of its own.
        weights = Weights([65535, 65521], [[65535, 0], [0, 65521]], [[65535, 0, 65535], [65521, 65521, 0]])
        first, second = 65535 ** 130, 65521 ** 130
        whole = 2 * (first + second)
        told = asked(weights, [following(shown, [0] * 64) for shown in (0, 1, 2)])
        self.assertEqual(told, [share(first + second, whole), share(second, whole), share(first, whole)])
        self.assertEqual(told[1][1:321], large(second))

    def test_a_row_that_could_not_be_longer(self):
        weights = Weights([65535] * 16, [[65535] * 16] * 16, [[65535] * 16] * 16)
        told = asked_of_whole(weights, [following(shown, [15 - shown] * 64) for shown in range(16)])
        self.assertEqual(told, [[0] + large(1) + large(16)] * 16)


class LowestTerms(unittest.TestCase):
    def test_nothing_divides_both(self):
        for weights, rows in small_models(6, 65536):
            check_lowest_terms(self, weights, [following(0, signs) for signs in rows])

    def test_a_sign_that_can_not_come(self):
        # State 0 alone can come behind state 0, and it doesn't show sign 1.
        weights = Weights([4, 0], [[6, 0], [5, 5]], [[8, 0], [8, 8]])
        for length in (1, 2, 64):
            with self.subTest(length=length):
                told = asked(weights, [following(1, [0] * length), following(0, [0] * length)])
                self.assertEqual(told, [[0] + large(0) + large(1), [0] + large(1) + large(1)])


class Wrong(unittest.TestCase):
    def test_a_sign_that_there_is_not(self):
        weights = Weights([1, 2, 3, 4], [[1, 2, 3, 4]] * 4, [[1, 2, 3]] * 4)
        for length in (1, 2, 64):
            questions = [following(shown, [2] * length) for shown in (LEAST, -3, -1, 3, 4, 16, 255, GREATEST)]
            self.assertEqual(asked(weights, questions), [[-1]] * 8)
            told = asked(weights, [following(0, [2] * length), following(2, [2] * length)])
            self.assertEqual(told, [share(1, 6), share(1, 2)])

    def test_ahead_of_a_total_of_0(self):
        wrong = [
            following(0, []), following(0, [3]), following(0, [0, 3, 0]), following(3, [0]), following(-1, [0]),
            following(LEAST, [0]), following(GREATEST, [2] * 64), following(3, []), following(0, [0] * 63 + [255]),
        ]
        self.assertEqual(told_of([BEGIN, size(2, 3)] + wrong)[2:], [[-1]] * len(wrong))


class AllOf0(unittest.TestCase):
    def test_is_refused(self):
        for length in (1, 2, 64):
            for states, signs in [(1, 1), (3, 2), (2, 3), (16, 16)]:
                calls = [BEGIN, size(states, signs)] + [following(shown, [0] * length) for shown in range(signs)]
                with self.subTest(length=length, states=states, signs=signs):
                    self.assertEqual(told_of(calls)[2:], [[-3]] * signs)

    def test_where_one_weight_is_missing(self):
        calls = [start(0, 5), step(0, 1, 5), step(1, 0, 5), sign(0, 0, 5), sign(1, 1, 5)]
        questions = [following(shown, [0, 1]) for shown in range(2)]
        told = told_of([BEGIN, size(2, 2)] + calls + questions)[-2:]
        self.assertEqual(told, [share(1, 1), share(0, 1)])
        for left_out in range(len(calls)):
            some = calls[:left_out] + calls[left_out + 1:]
            with self.subTest(left_out=calls[left_out]):
                self.assertEqual(told_of([BEGIN, size(2, 2)] + some + questions)[-2:], [[-3]] * 2)

    def test_where_the_row_has_ways_but_none_goes_on(self):
        weights = Weights([1, 1], [[0, 1], [0, 0]], [[1, 1], [1, 0]])
        told = asked(weights, [following(shown, signs) for signs in ([1], [0, 0]) for shown in (0, 1)])
        self.assertEqual(told, [share(1, 1), share(0, 1), [-3], [-3]])

    def test_where_the_row_has_no_way_but_signs_would_come(self):
        weights = Weights([1], [[1]], [[1, 0]])
        self.assertEqual(asked(weights, [following(0, [0]), following(0, [1])]), [share(1, 1), [-3]])


if __name__ == "__main__":
    unittest.main()

"""Point 7: likely."""

import unittest

from helper import (
    BEGIN, GREATEST, LEAST, Weights, asked, asked_of_whole, check_by_count, check_lowest_terms, large, likely,
    one_by_one, place_weights, share, sign, size, small_models, start, step, told_of,
)

HAND = Weights([1, 2], [[1, 2], [3, 4]], [[5, 6], [7, 8]])
WRONG_PLACES = [LEAST, -64, -2, -1]


class Likely(unittest.TestCase):
    def test_by_hand(self):
        # The ways of 0, 1 weigh 30, 80, 252 and 448: 810 together.
        questions = [likely(0, 0, [0, 1]), likely(0, 1, [0, 1]), likely(1, 0, [0, 1]), likely(1, 1, [0, 1])]
        expected = [[0] + large(part) + large(whole) for part, whole in [(11, 81), (70, 81), (47, 135), (88, 135)]]
        self.assertEqual(asked(HAND, questions), expected)

    def test_one_state_is_certain(self):
        for length in (1, 2, 64):
            weights = Weights([65535], [[65534]], [[9, 65533]])
            for place in {0, length // 2, length - 1}:
                self.assertEqual(asked(weights, [likely(place, 0, [1] * length)]), [[0] + large(1) + large(1)])

    def test_against_a_count_over_all_ways(self):
        for bound in (2, 3, 10, 65536):
            for weights, rows in small_models(bound + 1, bound):
                questions = []
                for signs in rows[-7:]:
                    for place in range(len(signs)):
                        questions += [likely(place, state, signs) for state in range(weights.states)]
                check_by_count(self, weights, questions)

    def test_large_models(self):
        for states, signs in [(16, 16), (16, 3), (3, 16)]:
            weights, gives, takes = one_by_one(states, signs)
            for length in (1, 2, 63, 64):
                shown = [(5 * place + place // 7) % signs for place in range(length)]
                for place in {0, length // 2, length - 1}:
                    found = place_weights(weights, gives, takes, shown, place)
                    for state in (0, states // 2, states - 1):
                        with self.subTest(states=states, signs=signs, length=length, place=place, state=state):
                            told = asked_of_whole(weights, [likely(place, state, shown)])
                            self.assertEqual(told, [share(found[state], sum(found))])

    def test_long_fractions(self):
        # Two ways for the row: one in state 0, one in state 1, whose weights have no divisor in common.
        weights = Weights([65535, 65521], [[65535, 0], [0, 65521]], [[65535], [65521]])
        first, second = 65535 ** 128, 65521 ** 128
        for place in (0, 31, 63):
            told = asked(weights, [likely(place, state, [0] * 64) for state in (0, 1)])
            self.assertEqual(told, [
                [0] + large(first) + large(first + second), [0] + large(second) + large(first + second),
            ])


class LowestTerms(unittest.TestCase):
    def test_nothing_divides_both(self):
        for weights, rows in small_models(5, 65536):
            check_lowest_terms(self, weights, [likely(len(signs) - 1, 0, signs) for signs in rows])

    def test_all_alike(self):
        weights = Weights([65535] * 16, [[65535] * 16] * 16, [[65535] * 16] * 16)
        told = asked_of_whole(weights, [likely(place, 15 - place % 16, [place % 16] * 64) for place in range(64)])
        self.assertEqual(told, [[0] + large(1) + large(16)] * 64)

    def test_a_state_that_has_no_way_there(self):
        weights = Weights([1, 0], [[1, 1], [1, 1]], [[3, 5, 7], [3, 5, 0]])
        none = [0] + large(0) + large(1)
        self.assertEqual(asked(weights, [likely(0, 1, [0]), likely(0, 1, [1, 0]), likely(1, 1, [0, 2])]), [none] * 3)
        for place in (1, 32, 63):
            signs = [0] * 64
            signs[place] = 2
            with self.subTest(place=place):
                self.assertEqual(asked(weights, [likely(place, 1, signs)]), [none])

    def test_a_state_in_which_every_way_is(self):
        weights = Weights([1, 0], [[1, 1], [1, 1]], [[3, 5, 7], [3, 5, 0]])
        certain = [0] + large(1) + large(1)
        self.assertEqual(asked(weights, [likely(0, 0, [1, 0]), likely(1, 0, [0, 2])]), [certain] * 2)

    def test_no_way_to_go_on(self):
        # State 1 begins more readily, but from it nothing leads on.
        weights = Weights([1, 9], [[1, 0], [0, 0]], [[1], [1]])
        self.assertEqual(asked(weights, [likely(0, 1, [0]), likely(0, 1, [0, 0])]), [share(9, 10), share(0, 1)])


class Wrong(unittest.TestCase):
    def test_a_place_that_there_is_not(self):
        for length in (1, 2, 3, 63, 64):
            signs = [1] * length
            places = WRONG_PLACES + [-length, length, length + 1, 64, 255, GREATEST]
            told = asked(HAND, [likely(place, state, signs) for place in places for state in (0, 1)])
            self.assertEqual(told, [[-1]] * len(told))

    def test_the_edges_that_there_are(self):
        for length in (1, 2, 3, 63, 64):
            told = asked(HAND, [likely(place, state, [1] * length) for place in (0, length - 1) for state in (0, 1)])
            self.assertEqual([answer[0] for answer in told], [0] * 4)

    def test_a_state_that_there_is_not(self):
        weights = Weights([1, 2, 3], [[1, 2, 3]] * 3, [[1] * 5] * 3)
        for length in (1, 64):
            questions = [likely(length - 1, state, [4] * length) for state in (LEAST, -3, -1, 3, 4, 16, GREATEST)]
            self.assertEqual(asked(weights, questions), [[-1]] * 7)
            self.assertEqual(asked(weights, [likely(0, 2, [4] * length)])[0][0], 0)

    def test_ahead_of_a_total_of_0(self):
        calls = [BEGIN, size(2, 3)]
        wrong = [
            likely(0, 0, []), likely(0, 0, [3]), likely(0, 0, [0, 1, 255]), likely(-1, 0, [0]), likely(1, 0, [0]),
            likely(0, 2, [0]), likely(0, -1, [0]), likely(LEAST, GREATEST, [0]), likely(64, 0, [2] * 64),
        ]
        self.assertEqual(told_of(calls + wrong)[2:], [[-1]] * len(wrong))


class TotalOf0(unittest.TestCase):
    def test_is_refused(self):
        for length in (1, 2, 64):
            for states, signs in [(1, 1), (3, 2), (16, 16)]:
                calls = [BEGIN, size(states, signs)]
                calls += [likely(place, states - 1, [0] * length) for place in {0, length // 2, length - 1}]
                with self.subTest(length=length, states=states, signs=signs):
                    told = told_of(calls)[2:]
                    self.assertEqual(told, [[-3]] * len(told))

    def test_where_one_weight_is_missing(self):
        calls = [start(0, 5), step(0, 1, 5), step(1, 0, 5), sign(0, 0, 5), sign(1, 1, 5)]
        questions = [likely(place, state, [0, 1, 0]) for place in range(3) for state in range(2)]
        told = told_of([BEGIN, size(2, 2)] + calls + questions)[-6:]
        self.assertEqual(told, [share(1, 1), share(0, 1), share(0, 1), share(1, 1), share(1, 1), share(0, 1)])
        for left_out in range(len(calls)):
            some = calls[:left_out] + calls[left_out + 1:]
            with self.subTest(left_out=calls[left_out]):
                self.assertEqual(told_of([BEGIN, size(2, 2)] + some + questions)[-6:], [[-3]] * 6)

    def test_with_ways_up_to_the_place_alone(self):
        weights = Weights([1], [[1]], [[1, 0]])
        told = asked(weights, [likely(0, 0, [0, 0]), likely(0, 0, [0, 1]), likely(1, 0, [1, 0])])
        self.assertEqual(told, [share(1, 1), [-3], [-3]])


if __name__ == "__main__":
    unittest.main()

"""Point 6: best."""

import unittest

from helper import (
    BEGIN, Weights, asked, asked_of_whole, best, check_by_count, every_row, filled_up, one_by_one, place_weights,
    sign, size, small_models, start, step, told_of,
)


class Best(unittest.TestCase):
    def test_by_hand(self):
        # The ways of 0, 1 weigh 30, 80, 252 and 448.
        weights = Weights([1, 2], [[1, 2], [3, 4]], [[5, 6], [7, 8]])
        self.assertEqual(asked(weights, [best([0]), best([0, 1])]), [[0, 1] + [255] * 63, [0, 1, 1] + [255] * 62])

    def test_not_the_best_beginning(self):
        weights = Weights([9, 1], [[1, 1], [1, 10]], [[1], [1]])
        self.assertEqual(asked(weights, [best([0]), best([0] * 2), best([0] * 3)]), [
            filled_up([0]), filled_up([1, 1]), filled_up([1, 1, 1]),
        ])

    def check_against_count(self, bound, seed):
        for weights, rows in small_models(seed, bound):
            check_by_count(self, weights, [best(signs) for signs in rows])

    def test_against_all_ways(self):
        for bound in (10, 65536):
            self.check_against_count(bound, bound)

    def test_against_all_ways_with_many_alike(self):
        for seed in range(6):
            self.check_against_count(3, seed)
            self.check_against_count(2, seed)

    def test_many_of_these_are_alike(self):
        # Or the test above would show little.
        several = 0
        for weights, rows in small_models(0, 3):
            for signs in rows:
                found = [weight for way, weight in weights.ways(signs)]
                several += max(found) > 0 and found.count(max(found)) > 1
        self.assertGreater(several, 50)

    def test_every_row_of_models_with_many_alike(self):
        models = [
            Weights([1, 2, 1], [[1, 2, 1], [2, 1, 0], [2, 0, 2]], [[1, 2], [2, 1], [2, 2]]),
            Weights([1, 1, 1], [[1, 1, 1], [1, 1, 1], [1, 1, 1]], [[1, 1], [1, 1], [1, 1]]),
            Weights([2, 2, 0], [[0, 1, 1], [1, 0, 2], [1, 2, 0]], [[1, 0], [1, 2], [2, 1]]),
        ]
        for weights in models:
            check_by_count(self, weights, [best(signs) for signs in every_row(2, 5)])

    def test_a_difference_too_small_for_fractions_cut_short(self):
        # The two products differ by 180, of nearly 2 ** 64: the second is the greater.
        first = [65535, 65535 - 4, 65535 - 7, 65535 - 11]
        second = [65535 - 1, 65535 - 2, 65535 - 9, 65535 - 10]
        question = best([0, 1, 2, 3])
        told = asked(Weights([1, 1], [[1, 0], [0, 1]], [first, second]), [question])
        self.assertEqual(told, [filled_up([1] * 4)])
        told = asked(Weights([1, 1], [[1, 0], [0, 1]], [second, first]), [question])
        self.assertEqual(told, [filled_up([0] * 4)])

    def test_large_models(self):
        for states, signs in [(16, 16), (16, 3), (3, 16)]:
            weights, gives, takes = one_by_one(states, signs)
            for length in (1, 2, 63, 64):
                shown = [(5 * place + place // 7) % signs for place in range(length)]
                way = []
                for place in range(length):
                    found = place_weights(weights, gives, takes, shown, place)
                    way.append(found.index(max(found)))
                with self.subTest(states=states, signs=signs, length=length):
                    self.assertEqual(asked_of_whole(weights, [best(shown)]), [filled_up(way)])


class Tie(unittest.TestCase):
    """Where two ways alone have the greatest weight, the one with the lesser state where they first differ."""

    # State 0 shows sign 0 alone; states 1 and 2 show signs 1 and 2, and each goes to the other and back to 0.
    TWO_WAYS = Weights([1, 1, 1], [[1, 1, 1], [1, 0, 1], [1, 1, 0]], [[1, 0, 0], [0, 1, 1], [0, 1, 1]])

    def test_all_alike(self):
        weights = Weights([7] * 3, [[7] * 3] * 3, [[7] * 2] * 3)
        for length in (1, 2, 64):
            self.assertEqual(asked(weights, [best([1] * length)]), [filled_up([0] * length)])

    def test_two_that_differ_from_a_place_on(self):
        for length in (2, 3, 5, 64):
            for place in {0, (length - 1) // 2, length - 2}:
                signs = [0] * length
                signs[place:place + 2] = [1, 2]
                way = list(signs)
                with self.subTest(length=length, place=place):
                    self.assertEqual(asked(self.TWO_WAYS, [best(signs)]), [filled_up(way)])

    def test_two_that_differ_at_one_place(self):
        for length in (1, 2, 3, 64):
            for place in {0, length // 2, length - 1}:
                for shown in (1, 2):
                    signs = [0] * length
                    signs[place] = shown
                    way = [0] * length
                    way[place] = 1
                    with self.subTest(length=length, place=place, shown=shown):
                        self.assertEqual(asked(self.TWO_WAYS, [best(signs)]), [filled_up(way)])

    def test_the_first_difference_counts_not_the_last(self):
        for length in (2, 3, 63, 64):
            weights = Weights([1, 1], [[0, 1], [1, 0]], [[1], [1]])
            way = [place % 2 for place in range(length)]
            self.assertEqual(asked(weights, [best([0] * length)]), [filled_up(way)])

    def test_alike_by_unlike_weights(self):
        weights = Weights([6, 4], [[2, 0], [0, 3]], [[1], [1]])
        self.assertEqual(asked(weights, [best([0, 0])]), [filled_up([0, 0])])
        weights = Weights([4, 6], [[3, 0], [0, 2]], [[1], [1]])
        self.assertEqual(asked(weights, [best([0, 0]), best([0] * 3), best([0])]), [
            filled_up([0, 0]), filled_up([0, 0, 0]), filled_up([1]),
        ])


class Form(unittest.TestCase):
    def test_255_behind_the_way(self):
        weights = Weights([0, 0, 1], [[0] * 3, [0] * 3, [0, 0, 1]], [[0], [0], [1]])
        for length in range(1, 65):
            with self.subTest(length=length):
                answer = asked(weights, [best([0] * length)])[0]
                self.assertEqual(answer, [0] + [2] * length + [255] * (64 - length))
                self.assertEqual(len(answer), 65)

    def test_all_16_states(self):
        steps = [[1 if goal == (origin + 1) % 16 else 0 for goal in range(16)] for origin in range(16)]
        weights = Weights([1] + [0] * 15, steps, [[1]] * 16)
        self.assertEqual(asked(weights, [best([0] * 64)]), [[0] + list(range(16)) * 4])


class TotalOf0(unittest.TestCase):
    def test_is_refused(self):
        for length in (1, 2, 64):
            for states, signs in [(1, 1), (3, 2), (16, 16)]:
                with self.subTest(length=length, states=states, signs=signs):
                    self.assertEqual(told_of([BEGIN, size(states, signs), best([0] * length)])[-1], [-3])

    def test_where_one_weight_is_missing(self):
        calls = [start(0, 5), step(0, 1, 5), step(1, 0, 5), sign(0, 0, 5), sign(1, 1, 5)]
        question = best([0, 1, 0])
        self.assertEqual(told_of([BEGIN, size(2, 2)] + calls + [question])[-1], filled_up([0, 1, 0]))
        for left_out in range(len(calls)):
            some = calls[:left_out] + calls[left_out + 1:]
            with self.subTest(left_out=calls[left_out]):
                self.assertEqual(told_of([BEGIN, size(2, 2)] + some + [question])[-1], [-3])

    def test_with_ways_but_not_for_this_row(self):
        weights = Weights([1], [[1]], [[1, 0]])
        told = asked(weights, [best([0, 0]), best([0, 1]), best([1, 0]), best([1])])
        self.assertEqual(told, [filled_up([0, 0]), [-3], [-3], [-3]])

    def test_a_way_of_weight_1_is_enough(self):
        weights = Weights([0, 1], [[0, 0], [0, 1]], [[0, 0], [0, 1]])
        self.assertEqual(asked(weights, [best([1] * 64)]), [filled_up([1] * 64)])


if __name__ == "__main__":
    unittest.main()

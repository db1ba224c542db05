"""Point 1: begin, and what the others answer where there is no model."""

import unittest

from helper import (
    BEGIN, GREATEST, LEAST, best, following, kept, likely, sign, single, size, start, step, total,
)

RIGHT = [
    start(0, 1), step(0, 0, 1), sign(0, 0, 1),
    total([0]), best([0]), likely(0, 0, [0]), following(0, [0]),
]

WRONG = [
    start(-1, 1), start(16, 1), start(0, -1), start(0, 65536), start(LEAST, GREATEST),
    step(-1, 0, 1), step(0, 16, 1), step(0, 0, 65536), step(GREATEST, LEAST, LEAST),
    sign(-1, 0, 1), sign(0, 16, 1), sign(0, 0, -1), sign(LEAST, GREATEST, GREATEST),
    total([]), total([255]), total([16] * 64),
    best([]), best([255]), best([16] * 64),
    likely(0, 0, []), likely(-1, 0, [0]), likely(1, 0, [0]), likely(0, 16, [0]), likely(LEAST, GREATEST, [255] * 64),
    following(0, []), following(-1, [0]), following(16, [0]), following(GREATEST, [255] * 64),
]


class Begin(unittest.TestCase):
    def test_answers_0(self):
        self.assertEqual(single([BEGIN]), [0])

    def test_answers_0_again(self):
        self.assertEqual(single([BEGIN, BEGIN, size(2, 2), BEGIN]), [0, 0, 0, 0])

    def test_leaves_no_model(self):
        self.assertIsNone(kept([BEGIN]))

    def test_again_takes_the_model_away(self):
        calls = [BEGIN, size(2, 3), start(0, 1), BEGIN]
        self.assertIsNone(kept(calls))
        self.assertEqual(single(calls + RIGHT), [0, 0, 0, 0] + [-4] * len(RIGHT))

    def test_again_and_size_make_a_model_without_the_old_weights(self):
        told = kept([BEGIN, size(2, 1), start(1, 7), step(1, 0, 8), sign(1, 0, 9), BEGIN, size(2, 1)])
        self.assertEqual(told, kept([BEGIN, size(2, 1)]))


class NoModel(unittest.TestCase):
    def test_right_numbers(self):
        for call in RIGHT:
            with self.subTest(call=call):
                self.assertEqual(single([BEGIN, call]), [0, -4])

    def test_wrong_numbers_too(self):
        for call in WRONG:
            with self.subTest(call=call):
                self.assertEqual(single([BEGIN, call]), [0, -4])

    def test_nothing_changes(self):
        for call in RIGHT + WRONG:
            with self.subTest(call=call):
                self.assertIsNone(kept([BEGIN, call]))

    def test_size_is_not_refused_so(self):
        self.assertEqual(single([BEGIN, size(1, 1)]), [0, 0])
        self.assertEqual(single([BEGIN, size(0, 1)]), [0, -1])

    def test_with_a_model_again(self):
        calls = [BEGIN, start(0, 1), size(1, 1), start(0, 1), BEGIN, start(0, 1)]
        self.assertEqual(single(calls), [0, -4, 0, 0, 0, -4])


if __name__ == "__main__":
    unittest.main()

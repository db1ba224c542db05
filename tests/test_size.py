"""Point 2: size."""

import unittest

from helper import BEGIN, GREATEST, LEAST, kept, sign, single, size, start, step

OUTSIDE = [LEAST, -16, -1, 0, 17, 255, 65536, GREATEST]


class Size(unittest.TestCase):
    def test_every_size_there_is(self):
        for states in range(1, 17):
            for signs in range(1, 17):
                with self.subTest(states=states, signs=signs):
                    self.assertEqual(single([BEGIN, size(states, signs)]), [0, 0])

    def test_all_weights_are_0(self):
        for states, signs in [(1, 1), (1, 16), (16, 1), (16, 16), (2, 3)]:
            with self.subTest(states=states, signs=signs):
                self.assertEqual(kept([BEGIN, size(states, signs)]), {
                    "states": states,
                    "signs": signs,
                    "start": [0] * states,
                    "step": [[0] * states] * states,
                    "sign": [[0] * signs] * states,
                })

    def test_outside(self):
        for number in OUTSIDE:
            for inside in (1, 5, 16):
                with self.subTest(number=number, inside=inside):
                    self.assertEqual(single([BEGIN, size(number, inside)]), [0, -1])
                    self.assertEqual(single([BEGIN, size(inside, number)]), [0, -1])

    def test_both_outside(self):
        for states in OUTSIDE:
            for signs in OUTSIDE:
                with self.subTest(states=states, signs=signs):
                    self.assertEqual(single([BEGIN, size(states, signs)]), [0, -1])

    def test_again_makes_a_new_model(self):
        calls = [BEGIN, size(3, 2), start(2, 5), step(2, 1, 6), sign(2, 1, 7)]
        for states, signs in [(3, 2), (2, 3), (16, 16), (1, 1)]:
            with self.subTest(states=states, signs=signs):
                again = calls + [size(states, signs)]
                self.assertEqual(single(again)[-1], 0)
                self.assertEqual(kept(again), kept([BEGIN, size(states, signs)]))

    def test_again_tells_which_states_and_signs_there_are(self):
        calls = [
            BEGIN, size(2, 5), start(2, 1), sign(1, 4, 1),
            size(5, 2), start(2, 1), start(4, 1), start(5, 1), sign(4, 1, 1), sign(1, 2, 1),
        ]
        self.assertEqual(single(calls), [0, 0, -1, 0, 0, 0, 0, -1, 0, -1])


class SizeRefused(unittest.TestCase):
    def test_leaves_the_model(self):
        calls = [BEGIN, size(3, 2), start(2, 5), step(2, 1, 6), sign(2, 1, 7)]
        before = kept(calls)
        for number in OUTSIDE:
            for refused in (size(number, 1), size(1, number), size(number, number)):
                with self.subTest(refused=refused):
                    self.assertEqual(kept(calls + [refused]), before)
                    behind = single(calls + [refused, start(2, 1), start(3, 1), sign(0, 1, 1), sign(0, 2, 1)])
                    self.assertEqual(behind[-5:], [-1, 0, -1, 0, -1])

    def test_leaves_that_there_is_none(self):
        for number in OUTSIDE:
            for refused in (size(number, 1), size(1, number), size(number, number)):
                with self.subTest(refused=refused):
                    self.assertIsNone(kept([BEGIN, refused]))
                    self.assertEqual(single([BEGIN, refused, start(0, 1)]), [0, -1, -4])


if __name__ == "__main__":
    unittest.main()

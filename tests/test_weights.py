"""Point 3: start, step and sign."""

import unittest

from helper import BEGIN, GREATEST, LEAST, kept, sign, single, size, start, step

# Unlike numbers of states and signs, either way round, and the edges of size.
SIZES = [(3, 5), (5, 3), (1, 1), (1, 16), (16, 1), (16, 16)]
WRONG_WEIGHTS = [LEAST, -1, 65536, GREATEST]


def outside(count):
    """Numbers that are no state (or sign) where there are so many."""
    return [LEAST, -count, -1, count, GREATEST]


def filled(states, signs):
    """Calls that make a model in which no two weights are alike."""
    calls = [BEGIN, size(states, signs)]
    weight = 1
    for state in range(states):
        calls.append(start(state, weight))
        weight += 1
        for goal in range(states):
            calls.append(step(state, goal, weight))
            weight += 1
        for shown in range(signs):
            calls.append(sign(state, shown, weight))
            weight += 1
    return calls


def wrong_calls(states, signs):
    """Calls of start, step and sign each wrong in one number, then in all."""
    last, last_sign = states - 1, signs - 1
    calls = []
    for weight in WRONG_WEIGHTS:
        calls += [start(last, weight), step(last, last, weight), sign(last, last_sign, weight)]
    for state in outside(states):
        calls += [start(state, 9), step(state, last, 9), step(last, state, 9), sign(state, last_sign, 9)]
    for shown in outside(signs):
        calls.append(sign(last, shown, 9))
    calls += [start(states, 65536), step(-1, states, -1), sign(states, signs, 65536)]
    return calls


class Weights(unittest.TestCase):
    def test_start_is_the_weight(self):
        calls = [BEGIN, size(3, 2), start(0, 4), start(2, 65535)]
        self.assertEqual(single(calls), [0] * 4)
        self.assertEqual(kept(calls), {
            "states": 3, "signs": 2,
            "start": [4, 0, 65535],
            "step": [[0, 0, 0], [0, 0, 0], [0, 0, 0]],
            "sign": [[0, 0], [0, 0], [0, 0]],
        })

    def test_step_is_the_weight_from_the_first_to_the_second(self):
        calls = [BEGIN, size(3, 2), step(0, 2, 4), step(2, 1, 65535)]
        self.assertEqual(single(calls), [0] * 4)
        self.assertEqual(kept(calls), {
            "states": 3, "signs": 2,
            "start": [0, 0, 0],
            "step": [[0, 0, 4], [0, 0, 0], [0, 65535, 0]],
            "sign": [[0, 0], [0, 0], [0, 0]],
        })

    def test_sign_is_the_weight_of_the_second_in_the_first(self):
        calls = [BEGIN, size(3, 2), sign(0, 1, 4), sign(2, 0, 65535)]
        self.assertEqual(single(calls), [0] * 4)
        self.assertEqual(kept(calls), {
            "states": 3, "signs": 2,
            "start": [0, 0, 0],
            "step": [[0, 0, 0], [0, 0, 0], [0, 0, 0]],
            "sign": [[0, 4], [0, 0], [65535, 0]],
        })

    def test_the_latest_weight_holds(self):
        calls = [BEGIN, size(1, 1)]
        for weight in (65535, 1, 0, 7):
            calls += [start(0, weight), step(0, 0, weight), sign(0, 0, weight)]
        told = kept(calls)
        self.assertEqual((told["start"], told["step"], told["sign"]), ([7], [[7]], [[7]]))

    def test_a_weight_becomes_0_again(self):
        calls = [BEGIN, size(2, 3), start(1, 5), step(1, 0, 5), sign(1, 2, 5)]
        calls += [start(1, 0), step(1, 0, 0), sign(1, 2, 0)]
        self.assertEqual(single(calls), [0] * 8)
        self.assertEqual(kept(calls), kept([BEGIN, size(2, 3)]))

    def test_every_place_keeps_its_own_weight(self):
        for states, signs in SIZES:
            with self.subTest(states=states, signs=signs):
                calls = filled(states, signs)
                self.assertEqual(single(calls), [0] * len(calls))
                told = kept(calls)
                width = 1 + states + signs
                for state in range(states):
                    first = 1 + state * width
                    self.assertEqual(told["start"][state], first)
                    self.assertEqual(told["step"][state], list(range(first + 1, first + 1 + states)))
                    self.assertEqual(told["sign"][state], list(range(first + 1 + states, first + width)))


class Edges(unittest.TestCase):
    def check(self, states, signs, call, answer):
        with self.subTest(states=states, signs=signs, call=call):
            self.assertEqual(single([BEGIN, size(states, signs), call]), [0, 0, answer])

    def test_least_and_greatest(self):
        for states, signs in SIZES:
            for weight in (0, 65535):
                for state in (0, states - 1):
                    self.check(states, signs, start(state, weight), 0)
                    for goal in (0, states - 1):
                        self.check(states, signs, step(state, goal, weight), 0)
                    for shown in (0, signs - 1):
                        self.check(states, signs, sign(state, shown, weight), 0)

    def test_beyond(self):
        for states, signs in SIZES:
            for call in wrong_calls(states, signs):
                self.check(states, signs, call, -1)

    def test_nothing_changes_beyond(self):
        for states, signs in SIZES:
            calls = filled(states, signs)
            before = kept(calls)
            for call in wrong_calls(states, signs):
                with self.subTest(states=states, signs=signs, call=call):
                    self.assertEqual(kept(calls + [call]), before)


if __name__ == "__main__":
    unittest.main()

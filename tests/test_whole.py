"""Over the whole program: lists in which all nine kinds of calls are mixed."""

import unittest

from helper import (
    BEGIN, GREATEST, LEAST, Draw, Unchanging, Weights, answers, best, counted, filled_up, following, large,
    likely, one_by_one, place_weights, row, share, sign, size, start, step, told_of, total,
)


class Reference:
    """A line that answers by a count over all ways."""

    def __init__(self):
        self.weights = None

    def answer(self, call):
        kind = call[0]
        if kind == 0:
            self.weights = None
            return [0]
        if kind == 1:
            return self.make(call[1], call[2])
        if self.weights is None:
            return [-4]
        if kind <= 4:
            return self.store(call)
        return [-1] if self.is_wrong(call) else counted(self.weights, call)

    def make(self, states, signs):
        if states not in range(1, 17) or signs not in range(1, 17):
            return [-1]
        self.weights = Weights(
            [0] * states, [[0] * states for state in range(states)], [[0] * signs for state in range(states)],
        )
        return [0]

    def store(self, call):
        weights = self.weights
        there = {2: [weights.states], 3: [weights.states] * 2, 4: [weights.states, weights.signs]}[call[0]]
        for place, bound in zip(call[1:], there + [65536]):
            if place not in range(bound):
                return [-1]
        if call[0] == 2:
            weights.starts[call[1]] = call[2]
        else:
            (weights.steps if call[0] == 3 else weights.shows)[call[1]][call[2]] = call[3]
        return [0]

    def is_wrong(self, call):
        signs = call[{5: 2, 6: 2, 7: 4, 8: 3}[call[0]]:]
        if not signs or any(shown not in range(self.weights.signs) for shown in signs):
            return True
        if call[0] == 7:
            return call[1] not in range(len(signs)) or call[2] not in range(self.weights.states)
        return call[0] == 8 and call[1] not in range(self.weights.signs)


def drawn_number(draw, bound):
    """Mostly a number below the bound, now and then one that isn't."""
    if draw.below(40) > 0:
        return draw.below(bound)
    return [LEAST, -1, bound, bound + 1, GREATEST][draw.below(5)]


def drawn_weight(draw):
    """Mostly a small weight, now and then the greatest or one that there isn't."""
    if draw.below(15) > 0:
        return draw.below(4)
    return [65535, 65534, -1, 65536, LEAST, GREATEST][draw.below(6)]


def drawn_row(draw):
    """A row of 0 to 4 signs below 3, seldom one beyond."""
    signs = draw.several(draw.below(4) + 1, 3)
    if draw.below(20) == 0:
        signs[draw.below(len(signs))] = [3, 16, 255][draw.below(3)]
    return [] if draw.below(20) == 0 else signs


def drawn_call(draw):
    """A call of any kind: begin and size seldom, the others often."""
    kind = draw.below(120)
    if kind == 0:
        return BEGIN
    if kind < 4:
        return size([3, 2, 3, 17, 0, -1][draw.below(6)], [3, 2, 3, 16, 17, 0][draw.below(6)])
    if kind < 18:
        return start(drawn_number(draw, 3), drawn_weight(draw))
    if kind < 50:
        return step(drawn_number(draw, 3), drawn_number(draw, 3), drawn_weight(draw))
    if kind < 76:
        return sign(drawn_number(draw, 3), drawn_number(draw, 3), drawn_weight(draw))
    signs = drawn_row(draw)
    if kind < 87:
        return total(signs)
    if kind < 98:
        return best(signs)
    if kind < 109:
        return likely(drawn_number(draw, max(len(signs), 1)), drawn_number(draw, 3), signs)
    return following(drawn_number(draw, 3), signs)


def drawn_line(seed):
    """Calls of one line: begin, mostly a size, then calls of any kind."""
    draw = Draw(seed)
    calls = [BEGIN] + ([size(3, 3)] if draw.below(5) > 0 else [])
    return calls + [drawn_call(draw) for place in range(240)]


def hundred_large_calls():
    """400 calls, 100 of them total, likely and next, with 16 states, 16 signs and rows of 64; and the answers."""
    weights, gives, takes = one_by_one(16, 16)
    # A line that asks so much has calls for 298 weights: 26 are left for signs.
    for state in range(16):
        weights.shows[state] = [65535 - state] + [0] * 14 + [[40000 + state, 0][state // 10]]
    calls = [BEGIN] + weights.written()
    told = [[0]] * len(calls)
    behind = [sum(takes[state] * weights.shows[state][shown] for state in range(16)) for shown in range(16)]
    for place in range(100):
        signs = [15 if (place * index) % 7 in (1, 2, 4) else 0 for index in range(64)]
        found = [place_weights(weights, gives, takes, signs, index) for index in range(64)]
        if place % 3 == 0:
            whole = 1
            for some in found:
                whole *= sum(some)
            calls.append(total(signs))
            told.append([0] + large(whole))
        elif place % 3 == 1:
            calls.append(likely(place % 64, place % 16, signs))
            told.append(share(found[place % 64][place % 16], sum(found[place % 64])))
        else:
            calls.append(following(place % 2 * 15, signs))
            told.append(share(behind[place % 2 * 15], sum(behind)))
    return calls, told


class Mixed(unittest.TestCase):
    def test_by_hand(self):
        calls = [
            (BEGIN, [0]), (total([0]), [-4]), (size(2, 2), [0]), (total([0]), [0] + large(0)), (best([0]), [-3]),
            (start(0, 1), [0]), (start(1, 2), [0]), (sign(0, 0, 5), [0]), (sign(1, 0, 7), [0]),
            (total([0]), [0] + large(19)), (best([0]), filled_up([1])), (likely(0, 0, [0]), share(5, 19)),
            (following(0, [0]), [-3]), (step(1, 0, 65536), [-1]), (following(0, [0]), [-3]), (step(1, 0, 3), [0]),
            (following(0, [0]), share(1, 1)), (total([0, 0]), [0] + large(210)), (best([0, 0]), filled_up([1, 0])),
            (sign(0, 1, 15), [0]), (following(1, [0]), share(3, 4)), (following(2, [0]), [-1]),
            (size(2, 17), [-1]), (likely(0, 1, [0]), share(14, 19)), (start(1, 0), [0]),
            (likely(0, 1, [0]), share(0, 1)), (likely(0, 2, [0]), [-1]), (likely(1, 1, [0]), [-1]),
            (size(2, 2), [0]), (total([0]), [0] + large(0)), (likely(0, 1, [0]), [-3]),
            (BEGIN, [0]), (total([0]), [-4]), (best([0]), [-4]), (likely(9, 9, []), [-4]), (following(9, []), [-4]),
            (size(1, 1), [0]), (best([0]), [-3]), (best([1]), [-1]), (best([]), [-1]),
        ]
        self.assertEqual(told_of([call for call, answer in calls]), [answer for call, answer in calls])

    def test_against_a_count_over_all_ways(self):
        seen = {}
        for seed in range(60):
            reference = Reference()
            calls = drawn_line(seed)
            for place, (call, answer) in enumerate(zip(calls, told_of(calls))):
                with self.subTest(seed=seed, place=place, call=call):
                    self.assertEqual(answer, reference.answer(call))
                seen.setdefault(call[0], {}).setdefault(answer[0], True)
        # Of each kind every answer that it has must have come up, or the lists are too plain.
        kinds = {kind: sorted(found) for kind, found in seen.items()}
        refused = {5: [-4, -1, 0], 6: [-4, -3, -1, 0], 7: [-4, -3, -1, 0], 8: [-4, -3, -1, 0]}
        self.assertEqual(kinds, {0: [0], 1: [-1, 0], 2: [-4, -1, 0], 3: [-4, -1, 0], 4: [-4, -1, 0], **refused})

    def test_a_weight_set_again_between(self):
        calls = [BEGIN, size(1, 1), start(0, 2), sign(0, 0, 1)]
        for weight in (3, 0, 65535, 4):
            calls += [step(0, 0, weight), total([0] * 3)]
        told = [answer for answer in told_of(calls) if len(answer) > 1]
        self.assertEqual(told, [[0] + large(2 * weight * weight) for weight in (3, 0, 65535, 4)])

    def test_begin_again(self):
        model = [size(1, 1), start(0, 1), step(0, 0, 1), sign(0, 0, 1)]
        four = [total([0]), best([0]), likely(0, 0, [0]), following(0, [0])]
        told = told_of([BEGIN] + model + four + [BEGIN] + four + model[:1] + four + model + four)
        first = [[0] + large(1), filled_up([0]), share(1, 1), share(1, 1)]
        none = [[0] + large(0), [-3], [-3], [-3]]
        self.assertEqual(told, [[0]] * 5 + first + [[0]] + [[-4]] * 4 + [[0]] + none + [[0]] * 4 + first)

    def test_no_answer_depends_on_those_before(self):
        four = [total([0, 1]), best([0, 1]), likely(1, 1, [0, 1]), following(1, [0, 1])]
        calls = [BEGIN] + Weights([1, 2], [[1, 2], [3, 4]], [[5, 6], [7, 8]]).written()
        told = told_of(calls + four * 20)[len(calls):]
        self.assertEqual(told, told[:4] * 20)
        backwards = told_of(calls + four[::-1])[len(calls):]
        self.assertEqual(backwards, told[:4][::-1])

    def test_400_calls_100_of_them_large(self):
        calls, expected = hundred_large_calls()
        self.assertEqual((len(calls), len([call for call in calls if call[0] in (5, 7, 8)])), (400, 100))
        told = told_of(calls)
        for place, (call, answer) in enumerate(zip(calls, told)):
            with self.subTest(place=place, call=call):
                self.assertEqual(answer, expected[place])


class Untouched(unittest.TestCase):
    def lists(self):
        yield row(hundred_large_calls()[0])
        for seed in range(5):
            yield row(drawn_line(seed))

    def test_the_list_is_as_it_was(self):
        for calls in self.lists():
            before = list(calls)
            answers(calls)
            self.assertEqual(calls, before)

    def test_the_list_is_not_changed_for_a_while_either(self):
        for calls in self.lists():
            self.assertEqual(answers(Unchanging(calls)), answers(calls))

    def test_twice_the_same(self):
        for calls in self.lists():
            first = answers(calls)
            kept = list(first)
            self.assertEqual(answers(calls), kept)
            self.assertEqual(first, kept)

    def test_nothing_is_kept_from_one_list_to_the_next(self):
        for calls in self.lists():
            answers(calls)
            self.assertEqual(told_of([BEGIN, total([0]), size(1, 1), best([0])]), [[0], [-4], [0], [-3]])

    def test_whole_numbers_alone_are_given_back(self):
        for calls in self.lists():
            told = answers(calls)
            self.assertIs(type(told), list)
            self.assertEqual({type(number) for number in told}, {int})


if __name__ == "__main__":
    unittest.main()

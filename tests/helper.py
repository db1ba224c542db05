"""What the tests share: calls written as numbers, a look at what a line keeps, and a count over all ways."""

from fractions import Fraction
from itertools import product
from math import gcd

from hiddenstates.models import Line, answer_all, answers

LEAST = -2147483648
GREATEST = 2147483647

BEGIN = [0]

MOST_CALLS = 400
MOST_LARGE = 100


def size(states, signs):
    return [1, states, signs]


def start(state, weight):
    return [2, state, weight]


def step(origin, goal, weight):
    return [3, origin, goal, weight]


def sign(state, shown, weight):
    return [4, state, shown, weight]


def total(signs):
    return [5, len(signs)] + signs


def best(signs):
    return [6, len(signs)] + signs


def likely(place, state, signs):
    return [7, place, state, len(signs)] + signs


def following(shown, signs):
    return [8, shown, len(signs)] + signs


def row(calls):
    """The calls one behind another, as one list."""
    return [number for call in calls for number in call]


def single(calls):
    """The answers to calls each of which answers one number."""
    told = answers(row(calls))
    counts = told[0::2]
    if counts != [1] * len(calls) or len(told) != 2 * len(calls):
        raise AssertionError(f"not one number for each of {len(calls)} calls: {told}")
    return told[1::2]


def apart(told):
    """What was given back, as one list for each answer."""
    found = []
    place = 0
    while place < len(told):
        behind = place + 1 + told[place]
        found.append(told[place + 1:behind])
        place = behind
    if place != len(told):
        raise AssertionError("the last answer is shorter than its count")
    return found


def told_of(calls):
    """The answers to the calls of one line, each a list of its own."""
    large = [call for call in calls if call[0] in (5, 7, 8)]
    if len(calls) > MOST_CALLS or len(large) > MOST_LARGE:
        raise AssertionError("a line doesn't hold so many calls")
    found = apart(answers(row(calls)))
    if len(found) != len(calls):
        raise AssertionError(f"{len(found)} answers to {len(calls)} calls")
    return found


def kept(calls):
    """What the line keeps behind the calls: None, or its sizes and all its weights."""
    line = Line()
    answer_all(line, row(calls))
    if line.model is None:
        return None
    model = line.model
    return {
        "states": model.states,
        "signs": model.signs,
        "start": model.start_weights,
        "step": model.step_weights,
        "sign": model.sign_weights,
    }


def refuse(*args, **kwargs):
    raise AssertionError("the list was changed")


class Unchanging(list):
    """A list at which every change fails, one that is taken back too."""

    append = extend = insert = pop = remove = clear = sort = reverse = refuse
    __setitem__ = __delitem__ = __iadd__ = __imul__ = refuse


class Weights:
    """A model as the tests know it: its weights, of start by state, of step and sign by both."""

    def __init__(self, starts, steps, shows):
        self.starts = starts
        self.steps = steps
        self.shows = shows
        self.states = len(starts)
        self.signs = len(shows[0])

    def weight(self, way, signs):
        """The weight of one way."""
        found = self.starts[way[0]]
        for origin, goal in zip(way, way[1:]):
            found *= self.steps[origin][goal]
        for state, shown in zip(way, signs):
            found *= self.shows[state][shown]
        return found

    def ways(self, signs):
        """Every way with its weight, the lesser state first."""
        return [(way, self.weight(way, signs)) for way in product(range(self.states), repeat=len(signs))]

    def total(self, signs):
        """The total of the row, way by way."""
        return sum(weight for way, weight in self.ways(signs))

    def written(self):
        """The calls that make the model and set those of its weights that are not 0."""
        calls = [size(self.states, self.signs)]
        calls += [start(state, weight) for state, weight in enumerate(self.starts)]
        for origin, weights in enumerate(self.steps):
            calls += [step(origin, goal, weight) for goal, weight in enumerate(weights)]
        for state, weights in enumerate(self.shows):
            calls += [sign(state, shown, weight) for shown, weight in enumerate(weights)]
        return calls[:1] + [call for call in calls[1:] if call[-1] != 0]


def large(value):
    """A large number as it is told."""
    return list(value.to_bytes(320, "little"))


def number(told):
    """The number that a large number tells."""
    return int.from_bytes(bytes(told), "little")


def share(part, whole):
    """A fraction as it is told, behind its 0; -3 where there is nothing to divide by."""
    if whole == 0:
        return [-3]
    lowest = Fraction(part, whole)
    return [0] + large(lowest.numerator) + large(lowest.denominator)


def filled_up(way):
    """A best way as it is told, behind its 0."""
    return [0] + list(way) + [255] * (64 - len(way))


def counted(weights, call):
    """The answer to a call of total, best, likely or next with nothing wrong in it, by a count over all ways."""
    if call[0] == 5:
        return [0] + large(weights.total(call[2:]))
    if call[0] == 6:
        ways = weights.ways(call[2:])
        most = max(weight for way, weight in ways)
        return [-3] if most == 0 else filled_up(min(way for way, weight in ways if weight == most))
    if call[0] == 7:
        signs = call[4:]
        having = sum(weight for way, weight in weights.ways(signs) if way[call[1]] == call[2])
        return share(having, weights.total(signs))
    signs = call[3:]
    totals = [weights.total(signs + [shown]) for shown in range(weights.signs)]
    return share(totals[call[1]], sum(totals))


def asked(weights, questions):
    """The answers to questions about a model, in lines that hold no more calls than they may."""
    found = []
    for first in range(0, len(questions), MOST_LARGE):
        some = questions[first:first + MOST_LARGE]
        calls = [BEGIN] + weights.written()
        found += told_of(calls + some)[len(calls):]
    return found


def check_by_count(case, weights, questions):
    """See that each answer about the model is that of a count over all ways."""
    for question, answer in zip(questions, asked(weights, questions), strict=True):
        with case.subTest(weights=vars(weights), question=question):
            case.assertEqual(answer, counted(weights, question))


def check_lowest_terms(case, weights, questions):
    """See that nothing but 1 divides both numbers of each fraction."""
    for question, answer in zip(questions, asked(weights, questions), strict=True):
        with case.subTest(weights=vars(weights), question=question):
            case.assertEqual(gcd(number(answer[1:321]), number(answer[321:])), 1)


def asked_of_whole(weights, questions):
    """The same where the model has more weights than one line sets: several lists on the one line."""
    line = Line()
    calls = weights.written()
    for first in range(0, len(calls), MOST_CALLS):
        answer_all(line, row(calls[first:first + MOST_CALLS]))
    return apart(answer_all(line, row(questions)))


class Draw:
    """Numbers that look drawn, and are the same each time."""

    def __init__(self, seed):
        self.state = seed

    def below(self, bound):
        """A number from 0 to the bound, without it."""
        self.state = (self.state * 6364136223846793005 + 1442695040888963407) % 2 ** 64
        return (self.state >> 33) % bound

    def several(self, count, bound):
        """So many numbers below the bound."""
        return [self.below(bound) for place in range(count)]

    def weights(self, states, signs, bound):
        """A model with weights below the bound."""
        return Weights(
            self.several(states, bound),
            [self.several(states, bound) for state in range(states)],
            [self.several(signs, bound) for state in range(states)],
        )


def every_row(signs, longest):
    """Every row of 1 to so many signs."""
    return [list(found) for length in range(1, longest + 1) for found in product(range(signs), repeat=length)]


def small_models(seed, bound):
    """Small models with unlike numbers of states and signs, each with rows for it."""
    draw = Draw(seed)
    for states, signs in [(1, 1), (1, 3), (2, 1), (2, 2), (2, 3), (3, 2), (2, 5), (4, 3), (3, 4), (5, 2)]:
        for again in range(4):
            weights = draw.weights(states, signs, bound)
            rows = every_row(signs, 2) + [draw.several(length, signs) for length in (3, 3, 4, 4, 5)]
            yield weights, rows


def one_by_one(states, signs):
    """A large model of which totals are known without a count: going from one to another is a product of two.

    The weight of going from one state to another is what the first gives times what the second takes, so the
    total is a product over the places.
    """
    gives = [3 + 7 * state for state in range(states)]
    takes = [250 - 11 * state for state in range(states)]
    weights = Weights(
        [65535 - 977 * state for state in range(states)],
        [[give * take for take in takes] for give in gives],
        [[(1 + state * 4099 + shown * 257) % 65536 for shown in range(signs)] for state in range(states)],
    )
    return weights, gives, takes


def place_weights(weights, gives, takes, signs, place):
    """For each state of such a model, what it adds at the place."""
    ahead = weights.starts if place == 0 else takes
    behind = [1] * weights.states if place == len(signs) - 1 else gives
    return [ahead[state] * weights.shows[state][signs[place]] * behind[state] for state in range(weights.states)]

"""What the tests share: calls written as numbers, and a look at what a line keeps."""

from hiddenstates.models import Line, answer_all, answers

LEAST = -2147483648
GREATEST = 2147483647

BEGIN = [0]


def size(states, signs):
    return [1, states, signs]


def start(state, weight):
    return [2, state, weight]


def step(origin, goal, weight):
    return [3, origin, goal, weight]


def sign(state, shown, weight):
    return [4, state, shown, weight]


def total(signs):
    return [5, len(signs)] + signs


def best(signs):
    return [6, len(signs)] + signs


def likely(place, state, signs):
    return [7, place, state, len(signs)] + signs


def following(shown, signs):
    return [8, shown, len(signs)] + signs


def row(calls):
    """The calls one behind another, as one list."""
    return [number for call in calls for number in call]


def single(calls):
    """The answers to calls each of which answers one number."""
    told = answers(row(calls))
    counts = told[0::2]
    if counts != [1] * len(calls) or len(told) != 2 * len(calls):
        raise AssertionError(f"not one number for each of {len(calls)} calls: {told}")
    return told[1::2]


def kept(calls):
    """What the line keeps behind the calls: None, or its sizes and all its weights."""
    line = Line()
    answer_all(line, row(calls))
    if line.model is None:
        return None
    model = line.model
    return {
        "states": model.states,
        "signs": model.signs,
        "start": model.start_weights,
        "step": model.step_weights,
        "sign": model.sign_weights,
    }

"""The calls on one line, read from a list of whole numbers and answered in order."""

from hiddenstates.large import fraction, large_number
from hiddenstates.ways import best_way, total_weight, weights_at, weights_of_next
from hiddenstates.weights import MOST_PLACES, Model, is_size

BEGIN = 0
SIZE = 1
START = 2
STEP = 3
SIGN = 4
TOTAL = 5
BEST = 6
LIKELY = 7

# By a call's number: how many whole numbers it has, a row and its count aside.
NUMBERS = (0, 2, 2, 3, 3, 0, 0, 2, 1)

DONE = 0
WRONG = -1
NO_WAY = -3
NO_MODEL = -4

# What stands behind the best way, where there are no more places.
NO_STATE = 255


class Line:
    """What a list of calls works on: its model, or None where there is none."""

    def __init__(self):
        self.model = None


def answers(calls):
    """Answer a list of calls: for each, how many numbers are answered, then these."""
    return answer_all(Line(), calls)


def answer_all(line, calls):
    """Answer the calls one behind another on the line."""
    told = []
    place = 0
    while place < len(calls):
        kind = calls[place]
        behind = place + 1 + NUMBERS[kind]
        end = behind_row(calls, kind, behind)
        answer = answer_call(line, kind, calls[place + 1:behind], calls[behind + 1:end])
        told.append(len(answer))
        told.extend(answer)
        place = end
    return told


def behind_row(calls, kind, place):
    """Tell where the next call stands, if this one's row would stand at the place."""
    if kind <= SIGN:
        return place
    return place + 1 + calls[place]


def answer_call(line, kind, numbers, signs):
    """Answer one call with a list: the number that is answered, then what is told."""
    if kind == BEGIN:
        line.model = None
        return [DONE]
    if kind == SIZE:
        return done_or_wrong(make_model(line, numbers[0], numbers[1]))
    if line.model is None:
        return [NO_MODEL]
    if kind <= SIGN:
        return done_or_wrong(set_weight(line.model, kind, numbers))
    return answer_of_row(line.model, kind, numbers, signs)


def done_or_wrong(done):
    """Answer a call that tells nothing and may only be refused as wrong."""
    return [DONE] if done else [WRONG]


def make_model(line, states, signs):
    """Give the line a new model; say whether there is a model of that size."""
    if not is_size(states, signs):
        return False
    line.model = Model(states, signs)
    return True


def set_weight(model, kind, numbers):
    """Set the weight that start, step or sign tells; say whether there is a place for it."""
    if kind == START:
        return model.set_start(numbers[0], numbers[1])
    if kind == STEP:
        return model.set_step(numbers[0], numbers[1], numbers[2])
    return model.set_sign(numbers[0], numbers[1], numbers[2])


def answer_of_row(model, kind, numbers, signs):
    """Answer total, best, likely or next."""
    if not model.has_row(signs):
        return [WRONG]
    if kind == TOTAL:
        return [DONE] + large_number(total_weight(model, signs))
    if kind == BEST:
        return answer_best(model, signs)
    if kind == LIKELY:
        return answer_likely(model, signs, numbers[0], numbers[1])
    return answer_next(model, signs, numbers[0])


def answer_best(model, signs):
    """Answer with the best way and what fills it up."""
    way = best_way(model, signs)
    if way is None:
        return [NO_WAY]
    return [DONE] + way + [NO_STATE] * (MOST_PLACES - len(way))


def answer_likely(model, signs, place, state):
    """Answer how much of the total the ways have that are in the state at the place."""
    if not (0 <= place < len(signs) and model.has_state(state)):
        return [WRONG]
    return answer_share(weights_at(model, signs, place), state)


def answer_next(model, signs, sign):
    """Answer how much the row with the sign behind it has of those with each sign."""
    if not model.has_sign(sign):
        return [WRONG]
    return answer_share(weights_of_next(model, signs), sign)


def answer_share(weights, chosen):
    """Answer with the chosen weight by all weights together."""
    whole = sum(weights)
    if whole == 0:
        return [NO_WAY]
    return [DONE] + fraction(weights[chosen], whole)

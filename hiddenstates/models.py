"""The calls on one line, read from a list of whole numbers and answered in order."""

from hiddenstates.weights import Model, is_size

BEGIN = 0
SIZE = 1
START = 2
STEP = 3
SIGN = 4

# By a call's number: how many whole numbers it has, a row and its count aside.
NUMBERS = (0, 2, 2, 3, 3, 0, 0, 2, 1)

DONE = 0
WRONG = -1
NO_MODEL = -4


class NotBuilt(Exception):
    """Raised at a call that the program can't answer yet: better than a wrong answer."""


class Line:
    """What a list of calls works on: its model, or None where there is none."""

    def __init__(self):
        self.model = None


def answers(calls):
    """Answer a list of calls: for each, how many numbers are answered, then these."""
    return answer_all(Line(), calls)


def answer_all(line, calls):
    """Answer the calls one behind another on the line."""
    told = []
    place = 0
    while place < len(calls):
        kind = calls[place]
        behind = place + 1 + NUMBERS[kind]
        answer = answer_call(line, kind, calls[place + 1:behind])
        told.append(len(answer))
        told.extend(answer)
        place = behind_row(calls, kind, behind)
    return told


def behind_row(calls, kind, place):
    """Tell where the next call stands, if this one's row would stand at the place."""
    if kind <= SIGN:
        return place
    return place + 1 + calls[place]


def answer_call(line, kind, numbers):
    """Answer one call with a list: the number that is answered, then what is told."""
    if kind == BEGIN:
        line.model = None
        return [DONE]
    if kind == SIZE:
        return done_or_wrong(make_model(line, numbers[0], numbers[1]))
    if line.model is None:
        return [NO_MODEL]
    if kind > SIGN:
        raise NotBuilt("total, best, likely and next are not built yet")
    return done_or_wrong(set_weight(line.model, kind, numbers))


def done_or_wrong(done):
    """Answer a call that tells nothing and may only be refused as wrong."""
    return [DONE] if done else [WRONG]


def make_model(line, states, signs):
    """Give the line a new model; say whether there is a model of that size."""
    if not is_size(states, signs):
        return False
    line.model = Model(states, signs)
    return True


def set_weight(model, kind, numbers):
    """Set the weight that start, step or sign tells; say whether there is a place for it."""
    if kind == START:
        return model.set_start(numbers[0], numbers[1])
    if kind == STEP:
        return model.set_step(numbers[0], numbers[1], numbers[2])
    return model.set_sign(numbers[0], numbers[1], numbers[2])

"""A model: how many states and signs it has, and the weights in it."""

MOST_STATES = 16
MOST_SIGNS = 16
MOST_WEIGHT = 65535
MOST_PLACES = 64


def is_size(states, signs):
    """Say whether a model may have so many states and signs."""
    return 1 <= states <= MOST_STATES and 1 <= signs <= MOST_SIGNS


def is_weight(weight):
    """Say whether the number may be a weight."""
    return 0 <= weight <= MOST_WEIGHT


class Model:
    """States and signs, each numbered from 0 on; every weight is 0 until it is set.

    Each method that sets a weight says whether there is such a place and weight;
    where there isn't, nothing changes.
    """

    def __init__(self, states, signs):
        self.states = states
        self.signs = signs
        self.start_weights = [0] * states
        self.step_weights = [[0] * states for state in range(states)]
        self.sign_weights = [[0] * signs for state in range(states)]

    def has_state(self, state):
        """Say whether there is such a state."""
        return 0 <= state < self.states

    def has_sign(self, sign):
        """Say whether there is such a sign."""
        return 0 <= sign < self.signs

    def has_row(self, signs):
        """Say whether the row is neither empty nor too long, and has no sign that there isn't."""
        return 1 <= len(signs) <= MOST_PLACES and all([self.has_sign(sign) for sign in signs])

    def set_start(self, state, weight):
        """Set the weight of beginning in the state."""
        if not (self.has_state(state) and is_weight(weight)):
            return False
        self.start_weights[state] = weight
        return True

    def set_step(self, origin, goal, weight):
        """Set the weight of going from the one state to the other."""
        if not (self.has_state(origin) and self.has_state(goal) and is_weight(weight)):
            return False
        self.step_weights[origin][goal] = weight
        return True

    def set_sign(self, state, sign, weight):
        """Set the weight of the sign in the state."""
        if not (self.has_state(state) and self.has_sign(sign) and is_weight(weight)):
            return False
        self.sign_weights[state][sign] = weight
        return True

"""The ways for a row of signs: their weights together, and the best of them.

There are far too many ways to go through one by one, so each function goes along the
row and keeps for each state what all ways through that state have in common.
"""


def total_weight(model, signs):
    """All weights of ways for the row together."""
    return sum(weights_ending(model, signs))


def weights_at(model, signs, place):
    """For each state, all weights together of ways that have it at the place."""
    ending = weights_ending(model, signs[:place + 1])
    behind = weights_behind(model, signs[place + 1:])
    return [ending[state] * behind[state] for state in range(model.states)]


def weights_of_next(model, signs):
    """For each sign, the total of the row with that sign behind it."""
    reached = weights_reached(model, weights_ending(model, signs))
    return [sum(weights_shown(model, reached, sign)) for sign in range(model.signs)]


def weights_ending(model, signs):
    """For each state, all weights together of ways for the row that end in it."""
    ending = weights_shown(model, model.start_weights, signs[0])
    for sign in signs[1:]:
        ending = weights_shown(model, weights_reached(model, ending), sign)
    return ending


def weights_behind(model, signs):
    """For each state, all weights together of going on from it with these signs."""
    behind = [1] * model.states
    for sign in reversed(signs):
        behind = weights_left(model, weights_shown(model, behind, sign))
    return behind


def weights_shown(model, weights, sign):
    """The weight of each state, with that of the sign in it."""
    return [weights[state] * model.sign_weights[state][sign] for state in range(model.states)]


def weights_reached(model, weights):
    """For each goal, the weights of all states, each with that of going from it to the goal."""
    reached = []
    for goal in range(model.states):
        reached.append(sum([weights[origin] * model.step_weights[origin][goal] for origin in range(model.states)]))
    return reached


def weights_left(model, weights):
    """For each origin, the weights of all states, each with that of going to it from the origin."""
    return [sum(steps_from(model, origin, weights)) for origin in range(model.states)]


def steps_from(model, origin, weights):
    """The weight of each state, with that of going to it from the origin."""
    return [model.step_weights[origin][goal] * weights[goal] for goal in range(model.states)]


def best_way(model, signs):
    """The best way for the row, or None where every way's weight is 0."""
    way = []
    leading = model.start_weights
    for greatest in greatest_onward(model, signs):
        choices = [leading[state] * greatest[state] for state in range(model.states)]
        most = max(choices)
        if most == 0:
            return None
        # What comes behind a state is known already, so the first of the greatest choices is right.
        chosen = choices.index(most)
        way.append(chosen)
        leading = model.step_weights[chosen]
    return way


def greatest_onward(model, signs):
    """For each place, by state there: the greatest weight of its sign and all that comes behind."""
    found = []
    onward = [1] * model.states
    for sign in reversed(signs):
        greatest = weights_shown(model, onward, sign)
        found.append(greatest)
        onward = [max(steps_from(model, origin, greatest)) for origin in range(model.states)]
    return list(reversed(found))

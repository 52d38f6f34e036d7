"""Systems: a shape, and a value of it for each state."""

from manyshaped.errors import BadMap, BadShape, BadState, BadSystem, TooMuch
from manyshaped.shape import check_shape, is_number_below
from manyshaped.value import fits, image, states_in

MOST_STATES = 60
MOST_NUMBERS = 200


def check_system(s):
    """Refuse what is no system within the bounds: BadSystem, BadShape for its shape."""
    if not isinstance(s, tuple) or len(s) != 2:
        raise BadSystem()
    shape, values = s
    check_shape(shape)
    if not isinstance(values, tuple) or len(values) > MOST_STATES:
        raise BadSystem()
    for value in values:
        if not fits(shape, len(values), value) or numbers_in(value) > MOST_NUMBERS:
            raise BadSystem()


def summed(s, t):
    """The system with the states of s, followed by those of t; TooMuch beyond 60 states."""
    check_system(s)
    check_system(t)
    check_same_shape(s, t)
    shape, values = s
    if len(values) + len(t[1]) > MOST_STATES:
        raise TooMuch()
    behind = [len(values) + x for x in range(len(t[1]))]
    return (shape, values + renumbered(shape, behind, t[1]))


def reached(s, state):
    """The strictly rising list of the states that are reached from the state."""
    check_system(s)
    check_state(s, state)
    return states_from(s, state)


def part(s, state):
    """The system of the states reached from the state, and the tuple of these."""
    states = reached(s, state)
    shape, values = s
    # States that are not reached stand in none of the values that are kept.
    numbers = [0] * len(values)
    for k, x in enumerate(states):
        numbers[x] = k
    return (shape, renumbered(shape, numbers, [values[x] for x in states])), tuple(states)


def is_map(s, t, f):
    """Tell whether f is a map from s to t; BadMap if it is no list of a state of t for each state of s."""
    check_system(s)
    check_system(t)
    check_same_shape(s, t)
    check_list_of_states(s, t, f)
    shape, values = s
    for x, value in enumerate(values):
        if image(shape, f, value) != t[1][f[x]]:
            return False
    return True


def check_state(s, state):
    """Refuse by BadState what is no state of the system."""
    if not is_number_below(state, len(s[1])):
        raise BadState()


def check_same_shape(s, t):
    """Refuse by BadShape two systems with unlike shapes."""
    if s[0] != t[0]:
        raise BadShape()


def check_list_of_states(s, t, f):
    """Refuse by BadMap what is no list with a state of t for each state of s."""
    if not isinstance(f, list) or len(f) != len(s[1]):
        raise BadMap()
    if not all([is_number_below(y, len(t[1])) for y in f]):
        raise BadMap()


def numbers_in(value):
    """How many numbers stand in a value, each as often as it stands there."""
    if not isinstance(value, tuple):
        return 1
    return sum(numbers_in(x) for x in value)


def renumbered(shape, f, values):
    """The tuple of the images of the values."""
    return tuple([image(shape, f, value) for value in values])


def states_from(s, state):
    """The strictly rising list of the states reached from a state of a system."""
    shape, values = s
    marked = [False] * len(values)
    marked[state] = True
    waiting = [state]
    while len(waiting) > 0:
        x = waiting.pop()
        for y in states_in(shape, values[x]):
            if not marked[y]:
                marked[y] = True
                waiting.append(y)
    return [x for x in range(len(values)) if marked[x]]

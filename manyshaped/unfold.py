"""Unfoldings: what can be seen of a state within some steps, as one value."""

from manyshaped.errors import TooMuch
from manyshaped.rounds import first_with_each, numbered
from manyshaped.system import check_state, check_system, numbers_in, renumbered
from manyshaped.value import image, listed_states

MOST_UNFOLDED = 20000


def unfolding(s, state, depth):
    """The unfolding of the state to the depth; TooMuch beyond 20000 numbers."""
    check_system(s)
    check_state(s, state)
    shape, values = s
    # States with one unfolding share one object, so that even one too large is told in little space and time.
    unfoldings, sizes, numbers = [0], [1], [0] * len(values)
    for _ in range(depth):
        images = renumbered(shape, numbers, values)
        numbers = numbered(images)
        different = [images[x] for x in first_with_each(numbers)]
        unfoldings = [image(shape, unfoldings, value) for value in different]
        sizes = [unfolded_size(shape, sizes, value) for value in different]
    if sizes[numbers[state]] > MOST_UNFOLDED:
        raise TooMuch()
    return unfoldings[numbers[state]]


def unfolded_size(shape, sizes, value):
    """How many numbers are in a value, if for each state in it stand as many as its size tells."""
    return numbers_in(value) + sum([sizes[x] - 1 for x in listed_states(shape, value)])

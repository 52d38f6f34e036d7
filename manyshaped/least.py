"""The least system that behaves as a state does, in one form."""

from manyshaped.alike import coarsest
from manyshaped.rounds import first_with_each, last_ranks
from manyshaped.system import check_same_shape, part, renumbered


def form(s, state):
    """The form of the state: a pair of a system and the number of the state in it."""
    inner, states = part(s, state)
    ranks = last_ranks(inner)
    return (merged(inner, ranks), ranks[states.index(state)])


def quotient(s):
    """The system in which each of the coarsest classes is one state, and these classes."""
    classes = coarsest(s)
    return merged(s, classes), classes


def same(s, x, t, y):
    """Tell by their forms whether x in s and y in t behave alike."""
    one, other = form(s, x), form(t, y)
    check_same_shape(s, t)
    return one == other


def merged(s, classes):
    """The system in which each class, numbered from 0 on, is one state."""
    shape, values = s
    return (shape, renumbered(shape, classes, [values[x] for x in first_with_each(classes)]))

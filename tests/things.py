"""What several tests use: shapes, wrong arguments, and plain second versions of what the package tells."""

from fractions import Fraction
from itertools import combinations, product

SELF = ("self",)


def letters(k):
    return ("letters", k)


def both(*shapes):
    return ("both", shapes)


def either(*shapes):
    return ("either", shapes)


def after(k, shape):
    return ("after", k, shape)


def some(shape):
    return ("some", shape)


def many(shape):
    return ("many", shape)


def chance(shape):
    return ("chance", shape)


def wrapped(times, shape, wrap=some):
    for _ in range(times):
        shape = wrap(shape)
    return shape


def nested(levels, inner=()):
    for _ in range(levels):
        inner = (inner,)
    return inner


def doubled(levels, inner):
    """A small object that is a tree with 2**levels leaves."""
    for _ in range(levels):
        inner = (inner, inner)
    return inner


# None of these is a shape, a system, a state of a system or a value of the shapes below.
WRONG = [
    "", "self", "abc", -1, 10 ** 40, True, False, None, ("",), ("selv",), ("Self",), ("self", 1), ("self", ()),
    ("some",), ("some", "self"), ("some", SELF, SELF), ("both", SELF), ("both",), ("either", "self"), (("self",),),
    ("after", SELF), ("after", 1), ("after", SELF, 1), ("chance", None), ("many", True), (True, SELF), (0, SELF),
    (None, None), ((), ()), ((), (), ()), nested(99), nested(99, "a"), nested(99, 0), doubled(99, ()), doubled(99, 0),
    doubled(99, "self"),
]


def error_of(call, *arguments):
    """The class of the error with which the call ends, or None."""
    try:
        call(*arguments)
    except Exception as e:
        assert e.args == ()
        return e.__class__
    return None


def all_values(shape, states):
    """All values of a shape without bags and chances."""
    kind = shape[0]
    if kind == "letters":
        return list(range(shape[1]))
    if kind == "self":
        return list(range(states))
    if kind == "both":
        return list(product(*[all_values(inner, states) for inner in shape[1]]))
    if kind == "either":
        return [(k, x) for k, inner in enumerate(shape[1]) for x in all_values(inner, states)]
    if kind == "after":
        return list(product(all_values(shape[2], states), repeat=shape[1]))
    inner = sorted(all_values(shape[1], states))
    return [xs for length in range(len(inner) + 1) for xs in combinations(inner, length)]


def plain_image(shape, f, value):
    """The image of a value, by dicts and fractions."""
    kind = shape[0]
    if kind == "letters":
        return value
    if kind == "self":
        return f[value]
    if kind == "both":
        return tuple(plain_image(inner, f, x) for inner, x in zip(shape[1], value))
    if kind == "either":
        return (value[0], plain_image(shape[1][value[0]], f, value[1]))
    if kind == "after":
        return tuple(plain_image(shape[2], f, x) for x in value)
    if kind == "some":
        return tuple(sorted({plain_image(shape[1], f, x) for x in value}))
    weights = {}
    for x, *weight in value:
        x = plain_image(shape[1], f, x)
        weights[x] = weights.get(x, 0) + Fraction(*weight)
    if kind == "many":
        return tuple((x, int(weights[x])) for x in sorted(weights))
    return tuple((x, weights[x].numerator, weights[x].denominator) for x in sorted(weights))

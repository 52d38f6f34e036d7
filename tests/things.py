"""What several tests use: shapes, wrong arguments, and plain second versions of what the package tells."""

from fractions import Fraction
from itertools import combinations, product

from manyshaped.errors import BadShape, BadState, BadSystem

SELF = ("self",)


def letters(k):
    return ("letters", k)


def both(*shapes):
    return ("both", shapes)


def either(*shapes):
    return ("either", shapes)


def after(k, shape):
    return ("after", k, shape)


def some(shape):
    return ("some", shape)


def many(shape):
    return ("many", shape)


def chance(shape):
    return ("chance", shape)


def wrapped(times, shape, wrap=some):
    for _ in range(times):
        shape = wrap(shape)
    return shape


def nested(levels, inner=()):
    for _ in range(levels):
        inner = (inner,)
    return inner


def doubled(levels, inner):
    """A small object that is a tree with 2**levels leaves."""
    for _ in range(levels):
        inner = (inner, inner)
    return inner


# None of these is a shape, a system, a state of a system or a value of the shapes below.
WRONG = [
    "", "self", "abc", -1, 10 ** 40, True, False, None, ("",), ("selv",), ("Self",), ("self", 1), ("self", ()),
    ("some",), ("some", "self"), ("some", SELF, SELF), ("both", SELF), ("both",), ("either", "self"), (("self",),),
    ("after", SELF), ("after", 1), ("after", SELF, 1), ("chance", None), ("many", True), (True, SELF), (0, SELF),
    (None, None), ((), ()), ((), (), ()), nested(99), nested(99, "a"), nested(99, 0), doubled(99, ()), doubled(99, 0),
    doubled(99, "self"),
]

# In each of these systems state 3 leads to no state but itself.
SYSTEMS = [
    (SELF, (1, 2, 1, 3)),
    (both(letters(2), SELF), ((0, 1), (1, 2), (0, 1), (1, 3))),
    (either(letters(3), both(SELF, SELF)), ((1, (1, 2)), (0, 2), (1, (2, 2)), (1, (3, 3)))),
    (after(2, SELF), ((2, 1), (1, 1), (2, 2), (3, 3))),
    (some(SELF), ((1, 2, 3), (), (1,), (3,))),
    (many(SELF), (((1, 2), (2, 1)), ((1, 1),), ((1, 1), (3, 2)), ())),
    (chance(SELF), (((0, 1, 2), (2, 1, 2)), ((3, 1, 1),), ((2, 1, 3), (3, 2, 3)), ((3, 1, 1),))),
    (some(chance(both(letters(2), SELF))), (
        ((((0, 1), 1, 2), ((1, 2), 1, 2)), (((1, 3), 1, 1),)), (), ((((0, 3), 1, 1),),), ((((0, 3), 1, 1),),),
    )),
    (letters(2), (0, 1, 1, 0)),
]
# No systems, though they hold no wrong shape.
NO_SYSTEMS = [
    "", "ab", 0, -1, 2, True, None, (), (SELF,), (SELF, (), ()), (SELF, 0), (SELF, None), (SELF, "a"), (SELF, True),
    (SELF, (1,)), (SELF, (-1,)), (SELF, (True,)), (SELF, (False,)), (SELF, (None,)), (SELF, ("0",)), (SELF, ((),)),
    (SELF, (0, 2)), (letters(2), (0, 2)), (letters(2), (True,)), (some(SELF), ((1, 0), ())), (some(SELF), ((0, 0),)),
    (some(SELF), (0,)), (many(SELF), (((0, 0),),)), (many(SELF), (((0, 1001),),)), (chance(SELF), ((),)),
    (chance(SELF), (((0, 2, 2),),)), (chance(SELF), (((0, 1, 2),),)), (both(SELF, SELF), ((0,),)),
    (SELF, nested(98)), (SELF, doubled(98, ())), (SELF, doubled(98, 0)), (some(SELF), doubled(98, ())),
    (wrapped(5, SELF), doubled(98, 0)), nested(100), nested(100, 0), (SELF, [0]), [SELF, (0,)],
]
BAD_SHAPES = [(x, (0,)) for x in WRONG] + [
    (wrapped(6, SELF), ()), ("self", ()), (0, 0), ((), ()), (None, None), letters(2), some(SELF),
]


WRONG_SYSTEMS = [(s, BadSystem) for s in NO_SYSTEMS] + [(s, BadShape) for s in BAD_SHAPES]


def ring(length):
    return (SELF, tuple((x + 1) % length for x in range(length)))


def line(length):
    """A row of states: each leads to the one before it, the first one to none."""
    return (some(SELF), tuple((x - 1,) if x > 0 else () for x in range(length)))


def error_of(call, *arguments):
    """The class of the error with which the call ends, or None."""
    try:
        call(*arguments)
    except Exception as e:
        assert e.args == ()
        return e.__class__
    return None


def check_refusals_for_two(test, call):
    """Check what a call for a state x of s and a state y of t refuses, in the order of the arguments."""
    empty, other = (SELF, ()), (some(SELF), ((),))
    for s, error in WRONG_SYSTEMS:
        for rest in ((None, None, None), (0, (None, ()), None), (0, ring(1), 0)):
            test.assertIs(error_of(call, s, *rest), error)
        test.assertIs(error_of(call, ring(60), 0, s, None), error)
        test.assertIs(error_of(call, other, 0, s, 0), error)
        test.assertIs(error_of(call, ring(1), 1, s, 0), BadState)
    for x in WRONG + [2, 3, (0,), "0"]:
        test.assertIs(error_of(call, ring(2), x, None, None), BadState)
        test.assertIs(error_of(call, ring(2), x, other, 0), BadState)
        test.assertIs(error_of(call, ring(2), 0, other, x), BadState)
        test.assertIs(error_of(call, ring(60), 0, ring(2), x), BadState)
    test.assertIs(error_of(call, empty, 0, ring(2), 0), BadState)
    test.assertIs(error_of(call, ring(2), 0, empty, 0), BadState)
    test.assertIs(error_of(call, ring(3), 2, ring(2), 2), BadState)
    test.assertIs(error_of(call, ring(61), 0, ring(2), 0), BadSystem)
    test.assertIs(error_of(call, ring(2), 0, other, 0), BadShape)
    test.assertIs(error_of(call, ring(60), 0, (some(SELF), ((),) * 60), 0), BadShape)
    # Values that are the same numbers do not make unlike shapes the same.
    test.assertIs(error_of(call, (letters(1), (0,)), 0, (letters(2), (0,)), 0), BadShape)
    test.assertIs(error_of(call, (letters(1), (0,)), 0, ring(1), 0), BadShape)


def all_values(shape, states):
    """All values of a shape without bags and chances."""
    kind = shape[0]
    if kind == "letters":
        return list(range(shape[1]))
    if kind == "self":
        return list(range(states))
    if kind == "both":
        return list(product(*[all_values(inner, states) for inner in shape[1]]))
    if kind == "either":
        return [(k, x) for k, inner in enumerate(shape[1]) for x in all_values(inner, states)]
    if kind == "after":
        return list(product(all_values(shape[2], states), repeat=shape[1]))
    inner = sorted(all_values(shape[1], states))
    return [xs for length in range(len(inner) + 1) for xs in combinations(inner, length)]


def plain_image(shape, f, value):
    """The image of a value, by dicts and fractions."""
    kind = shape[0]
    if kind == "letters":
        return value
    if kind == "self":
        return f[value]
    if kind == "both":
        return tuple(plain_image(inner, f, x) for inner, x in zip(shape[1], value))
    if kind == "either":
        return (value[0], plain_image(shape[1][value[0]], f, value[1]))
    if kind == "after":
        return tuple(plain_image(shape[2], f, x) for x in value)
    if kind == "some":
        return tuple(sorted({plain_image(shape[1], f, x) for x in value}))
    weights = {}
    for x, *weight in value:
        x = plain_image(shape[1], f, x)
        weights[x] = weights.get(x, 0) + Fraction(*weight)
    if kind == "many":
        return tuple((x, int(weights[x])) for x in sorted(weights))
    return tuple((x, weights[x].numerator, weights[x].denominator) for x in sorted(weights))

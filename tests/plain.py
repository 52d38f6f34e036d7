"""Plain second versions of what the package tells of systems, and systems to try them on."""

from fractions import Fraction
from itertools import product
from random import Random

from manyshaped.errors import ManyshapedError
from manyshaped.system import check_system, summed
from things import SELF, SYSTEMS, plain_image


def plain_ranks(s, rounds):
    """The ranks in that round, by the words of the document."""
    shape, values = s
    ranks = [0] * len(values)
    for _ in range(rounds):
        keys = [(rank, plain_image(shape, ranks, value)) for rank, value in zip(ranks, values)]
        ranks = [len({other for other in keys if other < key}) for key in keys]
    return ranks


def plain_unfolding(s, state, depth):
    shape, values = s
    told = [0] * len(values)
    for _ in range(depth):
        told = [plain_image(shape, told, value) for value in values]
    return told[state]


def plain_are_classes(s, classes):
    shape, values = s
    images = [plain_image(shape, classes, value) for value in values]
    pairs = product(range(len(values)), repeat=2)
    return all(images[x] == images[y] for x, y in pairs if classes[x] == classes[y])


def plain_distance(s, x, t, y):
    """The least round in which the two states have not the same rank, or None."""
    whole = summed(s, t)
    for rounds in range(len(whole[1]) + 1):
        ranks = plain_ranks(whole, rounds)
        if ranks[x] != ranks[len(s[1]) + y]:
            return rounds
    return None


def plain_true(s, state, formula, index=-1):
    """Whether the row, or the last one, is true of the state; row by row, state by state."""
    shape, values = s
    kind, *rest = formula[index]
    if kind == "true":
        return True
    if kind == "not":
        return not plain_true(s, state, formula, rest[0])
    if kind == "all":
        return all(plain_true(s, state, formula, k) for k in rest[0])
    f = [sum(2 ** j for j, k in enumerate(rest[0]) if plain_true(s, y, formula, k)) for y in range(len(values))]
    return plain_image(shape, f, values[state]) == rest[1]


def plain_form(s, state):
    """The form, by the words of the document."""
    shape, values = s
    states = plain_reached(s, state)
    numbers = [states.index(x) if x in states else None for x in range(len(values))]
    inner = (shape, tuple(plain_image(shape, numbers, values[x]) for x in states))
    ranks = plain_ranks(inner, len(states))
    told = {rank: plain_image(shape, ranks, value) for rank, value in zip(ranks, inner[1])}
    return ((shape, tuple(told[rank] for rank in range(len(told)))), ranks[states.index(state)])


def plain_reached(s, state):
    shape, values = s
    states = {state}
    while True:
        found = states | {x for y in states for x in range(len(values)) if leads_to(shape, values[y], x)}
        if found == states:
            return sorted(states)
        states = found


def leads_to(shape, value, state):
    """Whether the state stands in the value: whether another number in its place makes another value."""
    numbers = list(range(60))
    return plain_image(shape, numbers, value) != plain_image(shape, numbers[:state] + [60] + numbers[state + 1:], value)


def all_classes(states):
    """All ways to part the states, each by numbers as they first occur."""
    if states == 0:
        return [()]
    return [told + (k,) for told in all_classes(states - 1) for k in range(max(told, default=-1) + 2)]


def tried_shape(source, levels):
    kinds = ["letters", "self", "self", "self"]
    if levels > 1:
        kinds = ["self", "both", "both", "either", "after", "some", "some", "many", "chance"]
    kind = source.choice(kinds)
    if kind == "letters":
        return ("letters", source.randrange(1, 4))
    if kind == "self":
        return SELF
    if kind in ("both", "either"):
        return (kind, tuple(tried_shape(source, levels - 1) for _ in range(source.randrange(1, 4))))
    if kind == "after":
        return (kind, source.randrange(4), tried_shape(source, levels - 1))
    return (kind, tried_shape(source, levels - 1))


def tried_value(source, shape, states):
    kind = shape[0]
    if kind == "letters":
        return source.randrange(shape[1])
    if kind == "self":
        return source.randrange(states)
    if kind == "both":
        return tuple(tried_value(source, inner, states) for inner in shape[1])
    if kind == "either":
        k = source.randrange(len(shape[1]))
        return (k, tried_value(source, shape[1][k], states))
    if kind == "after":
        return tuple(tried_value(source, shape[2], states) for _ in range(shape[1]))
    least = 1 if kind == "chance" else 0
    weights = {tried_value(source, shape[1], states): source.randrange(1, 4) for _ in range(source.randrange(least, 4))}
    if kind == "some":
        return tuple(sorted(weights))
    if kind == "many":
        return tuple(sorted(weights.items()))
    chances = [(x, Fraction(weights[x], sum(weights.values()))) for x in sorted(weights)]
    return tuple((x, part.numerator, part.denominator) for x, part in chances)


def tried_system(seed, most=6):
    """A system, and classes of it that are known by the way in which it is made."""
    source = Random(seed)
    shape = tried_shape(source, source.randrange(2, 5))
    if seed % 2 == 1:
        shape = ("both", (("letters", 2), shape))
    few = source.randrange(1, 5)
    values = [tried_value(source, shape, few) for _ in range(few)]
    classes = list(range(few)) + [source.randrange(few) for _ in range(source.randrange(most + 1 - few))]
    source.shuffle(classes)
    told = []
    for number in classes:
        places = [source.choice([x for x, k in enumerate(classes) if k == other]) for other in range(few)]
        told.append(plain_image(shape, places, values[number]))
    return (shape, tuple(told)), tuple(classes)


def tried_systems(number):
    """So many systems within the bounds, with classes of them, after those of each sort."""
    found = [(s, (0, 1, 2, 3)) for s in SYSTEMS]
    seed = 0
    while len(found) < number:
        s, classes = tried_system(seed)
        seed += 1
        if is_system(s):
            found.append((s, classes))
    return found


def is_system(s):
    try:
        check_system(s)
    except ManyshapedError:
        return False
    return True

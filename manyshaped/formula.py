"""Formulas: which they are, of which states they are true, and those that tell the ranks of a round."""

from manyshaped.errors import BadFormula
from manyshaped.rounds import first_with_each, rounds_until
from manyshaped.shape import check_shape, is_number_below
from manyshaped.system import MOST_NUMBERS, check_state, check_system, numbers_in, renumbered
from manyshaped.value import fits, image

MOST_ROWS = 8000
MOST_SEEN = 8


def check_formula(shape, formula):
    """Refuse what is no formula of the shape: BadShape, BadFormula."""
    check_shape(shape)
    check_rows(shape, formula)


def true_of(s, state, formula):
    """Tell whether the formula is true of the state."""
    check_system(s)
    check_state(s, state)
    check_rows(s[0], formula)
    return holds(s, state, formula)


def depth(shape, formula):
    """The depth of the formula."""
    check_formula(shape, formula)
    depths = []
    for row in formula:
        deepest = max([depths[index] for index in indexes_in(row)], default=0)
        depths.append(deepest + 1 if row[0] == "see" else deepest)
    return depths[-1]


def characteristic(s, state, rounds):
    """A formula, no deeper than the rounds, true of exactly the states with the rank of the state in that round."""
    check_system(s)
    check_state(s, state)
    return formula_of_rank(s, state, rounds_until(s, rounds))


def check_rows(shape, formula):
    """Refuse by BadFormula what is no formula of what is known to be a shape."""
    if not is_formula(shape, formula):
        raise BadFormula()


def is_formula(shape, formula):
    """Tell whether this is a formula of what is known to be a shape."""
    if not isinstance(formula, tuple) or not 1 <= len(formula) <= MOST_ROWS:
        return False
    for number, row in enumerate(formula):
        if not is_row(shape, number, row):
            return False
    return True


def is_row(shape, number, row):
    """Tell whether this is a row behind so many other rows."""
    if not isinstance(row, tuple) or len(row) == 0:
        return False
    if row[0] == "true":
        return len(row) == 1
    if row[0] == "not":
        return len(row) == 2 and is_number_below(row[1], number)
    if row[0] == "all":
        return len(row) == 2 and are_indexes(row[1], number)
    return row[0] == "see" and len(row) == 3 and can_see(shape, number, row[1], row[2])


def are_indexes(rows, number):
    """Tell whether this is a tuple of indexes of so many rows."""
    return isinstance(rows, tuple) and all([is_number_below(index, number) for index in rows])


def can_see(shape, number, rows, value):
    """Tell whether these may stand in a row that sees, behind so many other rows."""
    if not are_indexes(rows, number) or len(rows) > MOST_SEEN:
        return False
    return fits(shape, 1 << len(rows), value) and numbers_in(value) <= MOST_NUMBERS


def indexes_in(row):
    """The tuple of the indexes in a row."""
    if row[0] == "true":
        return ()
    return (row[1],) if row[0] == "not" else row[1]


def holds(s, state, formula):
    """Tell whether what is known to be a formula is true of a state."""
    return (true_sets(s, formula)[-1] >> state) & 1 == 1


def true_sets(s, formula):
    """The list that has for each row the number whose bits are the states of which the row is true."""
    every = (1 << len(s[1])) - 1
    found = []
    last, images = None, ()
    for row in formula:
        below = [found[index] for index in indexes_in(row)]
        if row[0] == "not":
            found.append(every - below[0])
        elif row[0] == "see":
            # Rows that see by the same rows mostly stand together.
            if below != last:
                last, images = below, images_by(s, below)
            found.append(places(images, row[2]))
        else:
            found.append(common(every, below))
    return found


def images_by(s, below):
    """The images of the values by what is told of each state by the numbers of the rows below."""
    shape, values = s
    numbers = [sum([((bits >> state) & 1) << j for j, bits in enumerate(below)]) for state in range(len(values))]
    return renumbered(shape, numbers, values)


def places(images, value):
    """The number whose bits are the places where the value stands."""
    return sum([1 << x for x, seen in enumerate(images) if seen == value])


def common(every, below):
    """The number whose bits are those of every one of the numbers."""
    for bits in below:
        every = every & bits
    return every


def formula_of_rank(s, state, rounds):
    """A formula that is true of exactly the states with the rank of the state in the last of the rounds."""
    if len(rounds) == 1:
        return (("true",),)
    shape, values = s
    rows, bits = [], ()
    for before, ranks in zip(rounds, rounds[1:-1]):
        rows, bits = with_ranks(s, rows, bits, before, ranks)
    # States with one image by the ranks of a round have one rank in the next, for the ranks hold all that was before.
    rows.append(("see", bits, image(shape, rounds[-2], values[state])))
    return tuple(rows)


def with_ranks(s, rows, bits, before, ranks):
    """The rows and those that tell the ranks from the ranks before; and the rows for the bits of the ranks.

    Numbers of states are told by bits, for a row that sees may have few rows below it.
    """
    shape, values = s
    rows = list(rows)
    others = []
    for state in first_with_each(ranks):
        rows.append(("see", bits, image(shape, before, values[state])))
        others.append(len(rows))
        rows.append(("not", len(rows) - 1))
    first_bit = len(rows)
    for j in range((len(others) - 1).bit_length()):
        # A state has the bit if it has none of the ranks without it.
        rows.append(("all", tuple([index for rank, index in enumerate(others) if (rank >> j) & 1 == 0])))
    return rows, tuple(range(first_bit, len(rows)))

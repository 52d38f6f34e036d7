"""Classes of states that behave alike, rounds, and papers that tell whether two states do."""

from manyshaped.formula import formula_of_rank, holds, is_formula
from manyshaped.rounds import last_ranks, rounds_until
from manyshaped.shape import is_number
from manyshaped.system import check_state, check_system, summed
from manyshaped.value import image


def coarsest(s):
    """The tuple of the coarsest classes, numbered in the order in which they first occur."""
    check_system(s)
    return as_they_occur(last_ranks(s))


def are_classes(s, classes):
    """Tell whether these are classes of the system."""
    check_system(s)
    return part_rightly(s, classes)


def ranks(s, rounds):
    """The list of the ranks in that round."""
    check_system(s)
    return rounds_until(s, rounds)[-1]


def alike(s, x, t, y):
    """A paper: ("yes", classes) of the sum, or ("no", formula) that is true of x alone, of the least depth."""
    both = checked_sum(s, x, t, y)
    other = len(s[1]) + y
    rounds = rounds_until(both, len(both[1]))
    for k, told in enumerate(rounds):
        if told[x] != told[other]:
            return ("no", formula_of_rank(both, x, rounds[:k + 1]))
    return ("yes", as_they_occur(rounds[-1]))


def takes(s, x, t, y, paper):
    """Tell whether this is a paper on x in s and y in t; a "no" may be of any depth."""
    both = checked_sum(s, x, t, y)
    if not isinstance(paper, tuple) or len(paper) != 2:
        return False
    word, told = paper
    if word == "yes":
        return part_rightly(both, told) and told[x] == told[len(s[1]) + y]
    if word == "no":
        return is_formula(s[0], told) and holds(s, x, told) and not holds(t, y, told)
    return False


def checked_sum(s, x, t, y):
    """The sum of s and t, with all refusals for a state x of s and a state y of t."""
    check_system(s)
    check_state(s, x)
    check_system(t)
    check_state(t, y)
    return summed(s, t)


def part_rightly(s, classes):
    """Tell whether these are classes of what is known to be a system."""
    shape, values = s
    if not isinstance(classes, tuple) or len(classes) != len(values):
        return False
    if not all([is_number(number) for number in classes]):
        return False
    images = {}
    for number, value in zip(classes, values):
        seen = image(shape, classes, value)
        if images.setdefault(number, seen) != seen:
            return False
    return True


def as_they_occur(numbers):
    """The tuple with 0, 1, 2, .. in the place of the numbers, in the order in which they first occur."""
    order = {}
    for number in numbers:
        order.setdefault(number, len(order))
    return tuple([order[number] for number in numbers])

"""Values of a shape: which they are, their images, and how many there are."""

from math import comb, gcd, lcm

from manyshaped.shape import check_shape, is_number, is_number_below, shapes_below

MOST_IN_BAG = 1000
LOWS_BELOW = 10 ** 30
MOST_COUNTED = 10 ** 9
# So many values have more than MOST_COUNTED sets, and all the more bags.
MANY_VALUES = 30


def is_value(shape, states, x):
    """Tell whether x is a value of the shape over so many states; BadShape."""
    check_shape(shape)
    return fits(shape, states, x)


def image(shape, f, value):
    """The value with f[x] in the place of each state x."""
    kind = shape[0]
    if kind == "self":
        return f[value]
    if kind == "letters":
        return value
    if kind == "either":
        k, inner = value
        return (k, image(shape[1][k], f, inner))
    images = [image(inner, f, x) for inner, x in parts(shape, value)]
    if kind == "some":
        singles = [(x,) for x in images]
        return tuple([rows[0][0] for rows in grouped(singles)])
    if kind == "many":
        pairs = [(x, row[1]) for x, row in zip(images, value)]
        return tuple([joined_counts(rows) for rows in grouped(pairs)])
    if kind == "chance":
        triples = [(x, row[1], row[2]) for x, row in zip(images, value)]
        return tuple([joined_chances(rows) for rows in grouped(triples)])
    return tuple(images)


def states_in(shape, value):
    """The strictly rising list of the states that stand in a value."""
    return sorted(set(listed_states(shape, value)))


def count_values(shape, states):
    """How many values there are over so many states, or None beyond 10**9; BadShape."""
    check_shape(shape)
    return number_of_values(shape, states)


def fits(shape, states, x):
    """Tell whether x is a value of what is known to be a shape."""
    kind = shape[0]
    if kind == "letters":
        return is_number_below(x, shape[1])
    if kind == "self":
        return is_number_below(x, states)
    if not isinstance(x, tuple):
        return False
    if kind == "both":
        return all_fit(shape[1], states, x)
    if kind == "either":
        return is_choice(shape[1], states, x)
    if kind == "after":
        return all_fit([shape[2]] * shape[1], states, x)
    if kind == "some":
        return all_rise(shape[1], states, x)
    if kind == "many":
        return is_bag(shape[1], states, x)
    return is_chance(shape[1], states, x)


def all_fit(shapes, states, xs):
    """Tell whether there is one value of each of the shapes, in their order."""
    if len(xs) != len(shapes):
        return False
    for shape, x in zip(shapes, xs):
        if not fits(shape, states, x):
            return False
    return True


def is_choice(shapes, states, x):
    """Tell whether the tuple is the index of one of the shapes with a value of it."""
    return len(x) == 2 and is_number_below(x[0], len(shapes)) and fits(shapes[x[0]], states, x[1])


def all_rise(shape, states, xs):
    """Tell whether all are values of the shape, strictly rising."""
    last = None
    for x in xs:
        # Only values of one shape can be compared, so x must be one first.
        if not fits(shape, states, x):
            return False
        if last is not None and not last < x:
            return False
        last = x
    return True


def is_bag(shape, states, rows):
    """Tell whether the rows are a bag of values of the shape."""
    if not all_long(rows, 2):
        return False
    counts = [row[1] for row in rows]
    if not all([is_number(count) and count >= 1 for count in counts]) or sum(counts) > MOST_IN_BAG:
        return False
    return all_rise(shape, states, [row[0] for row in rows])


def is_chance(shape, states, rows):
    """Tell whether the rows are chances of values of the shape."""
    if not all_long(rows, 3) or not add_up_to_one([row[1:] for row in rows]):
        return False
    return all_rise(shape, states, [row[0] for row in rows])


def all_long(rows, length):
    """Tell whether all rows are tuples of this length."""
    return all([isinstance(row, tuple) and len(row) == length for row in rows])


def add_up_to_one(chances):
    """Tell whether the pairs are chances in lowest terms that add up to 1, with a small enough multiple."""
    whole = 1
    for top, low in chances:
        if not is_lowest(top, low):
            return False
        whole = lcm(whole, low)
        # Checked at each step, for the multiple of many lows could grow without end.
        if whole >= LOWS_BELOW:
            return False
    return sum([top * (whole // low) for top, low in chances]) == whole


def is_lowest(top, low):
    """Tell whether top / low is a chance in lowest terms, low small enough."""
    if not is_number(top) or not is_number(low):
        return False
    return 1 <= top <= low < LOWS_BELOW and gcd(top, low) == 1


def parts(shape, value):
    """The values that stand directly in a value, each in a pair behind its shape."""
    kind = shape[0]
    if kind in ("letters", "self"):
        return []
    if kind == "both":
        return list(zip(shape[1], value))
    if kind == "either":
        return [(shape[1][value[0]], value[1])]
    inner = shape[-1]
    if kind in ("many", "chance"):
        return [(inner, row[0]) for row in value]
    return [(inner, x) for x in value]


def listed_states(shape, value):
    """The list of the states in a value, each as often as it stands there."""
    if shape[0] == "self":
        return [value]
    found = []
    for inner, x in parts(shape, value):
        found.extend(listed_states(inner, x))
    return found


def grouped(rows):
    """The rows, ordered, in lists of those that begin with the same value."""
    # Values may be nested too deep for keys and members, so equal ones are found by their order.
    groups = []
    for row in sorted(rows):
        if len(groups) > 0 and groups[-1][0][0] == row[0]:
            groups[-1].append(row)
        else:
            groups.append([row])
    return groups


def joined_counts(rows):
    """One pair for pairs (value, count) with the same value."""
    return (rows[0][0], sum([row[1] for row in rows]))


def joined_chances(rows):
    """One triple for triples (value, top, low) with the same value."""
    total, whole = rows[0][1], rows[0][2]
    for row in rows[1:]:
        total, whole = added(total, whole, row[1], row[2])
    return (rows[0][0], total, whole)


def added(top, low, other_top, other_low):
    """The pair (top, low) of the sum of two fractions, in lowest terms."""
    whole = lcm(low, other_low)
    total = top * (whole // low) + other_top * (whole // other_low)
    shared = gcd(total, whole)
    return total // shared, whole // shared


def number_of_values(shape, states):
    """How many values what is known to be a shape has, or None beyond 10**9."""
    kind = shape[0]
    if kind == "letters":
        return shape[1]
    if kind == "self":
        return limited(states)
    counts = [number_of_values(inner, states) for inner in shapes_below(shape)]
    if kind == "both":
        return multiplied(counts)
    if kind == "either":
        return None if None in counts else limited(sum(counts))
    if kind == "after":
        return multiplied(counts * shape[1])
    if kind == "some":
        return number_of_sets(counts[0])
    if kind == "many":
        return number_of_bags(counts[0])
    # Chances of two values or more could be told one by one, but count as endless.
    return counts[0] if counts[0] in (0, 1) else None


def multiplied(counts):
    """The product of the counts, None being one beyond 10**9."""
    if 0 in counts:
        return 0
    if None in counts:
        return None
    total = 1
    for count in counts:
        total = total * count
    return limited(total)


def number_of_sets(count):
    """How many sets there are of so many values."""
    if count is None or count >= MANY_VALUES:
        return None
    return limited(1 << count)


def number_of_bags(count):
    """How many bags there are of so many values."""
    if count is None or count >= MANY_VALUES:
        return None
    # What a bag lacks to its bound is like the count of one more value.
    return limited(comb(MOST_IN_BAG + count, count))


def limited(count):
    """The count, or None beyond 10**9."""
    return count if count <= MOST_COUNTED else None

"""Shapes: the tuples that tell what the values of a system look like."""

from manyshaped.errors import BadShape

MOST_LEVELS = 6
MOST_SHAPES = 40
MOST_LETTERS = 5
MOST_BESIDE = 4
MOST_AFTER = 4


def check_shape(shape):
    """Refuse by BadShape what is no shape."""
    if not is_nested(shape, MOST_LEVELS) or shapes_in(shape) > MOST_SHAPES:
        raise BadShape()


def size(shape):
    """How many shapes are in the shape, itself counted; BadShape."""
    check_shape(shape)
    return shapes_in(shape)


def is_number(x):
    """Tell whether x is a whole number; truth values are none."""
    return isinstance(x, int) and not isinstance(x, bool)


def is_number_below(x, end):
    """Tell whether x is one of the numbers from 0 to end - 1."""
    return is_number(x) and 0 <= x < end


def is_nested(shape, levels):
    """Tell whether this is a shape, of any size, that is at most so many levels deep."""
    # The levels run out before a tuple nested too deep could be walked to its end.
    if levels == 0 or not isinstance(shape, tuple) or len(shape) == 0:
        return False
    kind = shape[0]
    if kind == "self":
        return len(shape) == 1
    if kind == "after":
        return len(shape) == 3 and is_number_below(shape[1], MOST_AFTER + 1) and is_nested(shape[2], levels - 1)
    if len(shape) != 2:
        return False
    if kind == "letters":
        return is_number_below(shape[1], MOST_LETTERS + 1) and shape[1] > 0
    if kind in ("both", "either"):
        return are_nested(shape[1], levels - 1)
    return kind in ("some", "many", "chance") and is_nested(shape[1], levels - 1)


def are_nested(shapes, levels):
    """Tell whether this is a tuple of as many shapes as may stand side by side."""
    if not isinstance(shapes, tuple) or not 1 <= len(shapes) <= MOST_BESIDE:
        return False
    return all(is_nested(shape, levels) for shape in shapes)


def shapes_below(shape):
    """The tuple of the shapes that stand directly in a shape."""
    kind = shape[0]
    if kind in ("letters", "self"):
        return ()
    if kind in ("both", "either"):
        return shape[1]
    return (shape[-1],)


def shapes_in(shape):
    """How many shapes are in a shape, itself counted, each as often as it stands there."""
    return 1 + sum(shapes_in(inner) for inner in shapes_below(shape))

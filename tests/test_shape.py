"""Promise 1.1: what a shape is."""

import unittest

from manyshaped.errors import BadShape
from manyshaped.shape import check_shape, size
from things import SELF, WRONG, after, both, chance, either, error_of, letters, many, some, wrapped


def broad(wraps):
    """A shape at most 5 deep with 37 shapes and as many more as are wrapped around some of them."""
    five = both(SELF, SELF, SELF, SELF)
    once, twice = wrapped(wraps - wraps // 2, five), wrapped(wraps // 2, five)
    return both(once, both(five, five, five, five), twice, five)


class Shapes(unittest.TestCase):

    def good(self, shape, shapes):
        self.assertIsNone(check_shape(shape))
        self.assertEqual(size(shape), shapes)

    def bad(self, shape):
        self.assertIs(error_of(check_shape, shape), BadShape)
        self.assertIs(error_of(size, shape), BadShape)

    def test_each_sort(self):
        for shape, shapes in (
            (SELF, 1), (letters(3), 1), (both(SELF, letters(2)), 3), (either(SELF, letters(2), SELF), 4),
            (after(2, SELF), 2), (some(SELF), 2), (many(SELF), 2), (chance(SELF), 2),
        ):
            self.good(shape, shapes)

    def test_nested_in_one_another(self):
        self.good(both(letters(2), after(2, some(SELF)), either(many(SELF), chance(both(SELF, SELF)))), 12)
        inner = (SELF, letters(1), both(SELF), either(SELF), after(1, SELF), some(SELF), many(SELF), chance(SELF))
        for shape in inner:
            below = size(shape)
            for outer in (both(shape), either(shape), after(3, shape), some(shape), many(shape), chance(shape)):
                self.good(outer, below + 1)
            self.good(both(shape, shape, SELF), 2 * below + 2)

    def test_letters(self):
        for k in range(1, 6):
            self.good(letters(k), 1)
        for k in (-1, 0, 6, 10 ** 50, True, False, None, "1", (), (1,), SELF):
            self.bad(letters(k))

    def test_after(self):
        for k in range(5):
            self.good(after(k, SELF), 2)
        for k in (-1, 5, 10 ** 50, True, False, None, "1", (), (1,), SELF):
            self.bad(after(k, SELF))

    def test_tuples_of_shapes(self):
        for kind in ("both", "either"):
            for length in range(1, 5):
                self.good((kind, (SELF,) * length), 1 + length)
            self.bad((kind, ()))
            self.bad((kind, (SELF,) * 5))
            self.bad((kind, SELF))
            self.bad((kind, SELF, SELF))
            for x in WRONG:
                if x != (SELF,):
                    self.bad((kind, x))
                self.bad((kind, (x,)))
                self.bad((kind, (SELF, x)))

    def test_depth(self):
        for wrap in (some, many, chance, both, either, lambda shape: after(2, shape)):
            for leaf in (SELF, letters(2)):
                self.good(wrapped(5, leaf, wrap), 6)
                self.bad(wrapped(6, leaf, wrap))
        self.good(both(letters(1), wrapped(4, SELF)), 7)
        self.bad(both(letters(1), wrapped(5, SELF)))
        self.bad(wrapped(99, SELF))
        self.bad(wrapped(49, SELF, both))
        self.bad(wrapped(99, SELF, lambda shape: ("both", (shape, shape))))

    def test_number_of_shapes(self):
        self.good(broad(0), 37)
        self.good(broad(2), 39)
        self.good(broad(3), 40)
        self.bad(broad(4))
        self.bad(wrapped(3, SELF, lambda shape: both(shape, shape, shape, shape)))
        self.good(wrapped(4, SELF, lambda shape: both(shape, shape)), 31)
        self.bad(wrapped(5, SELF, lambda shape: both(shape, shape)))

    def test_what_is_none(self):
        for x in WRONG:
            self.bad(x)
            for kind in ("some", "many", "chance"):
                self.bad((kind, x))
            self.bad(("after", 2, x))
            self.bad((x, SELF))
            if x != "self":
                self.bad((x,))

    def test_wrong_lengths(self):
        for kind in ("self", "letters", "both", "either", "after", "some", "many", "chance"):
            for rest in ((1, 1), (1, SELF, SELF), ((SELF,), SELF), (SELF, SELF, SELF), ((), ())):
                self.bad((kind,) + rest)
        for kind in ("letters", "both", "either", "after", "some", "many", "chance"):
            self.bad((kind,))


if __name__ == "__main__":
    unittest.main()

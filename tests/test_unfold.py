"""Promise 5.1: unfoldings, what they tell, and where they are too much."""

import unittest
from itertools import product

from manyshaped.alike import ranks
from manyshaped.errors import BadState, BadSystem, TooMuch
from manyshaped.unfold import unfolding
from plain import plain_unfolding, tried_systems
from things import (
    SELF, WRONG, WRONG_SYSTEMS, after, both, chance, either, error_of, letters, line, many, ring, some,
)

# Seven states and up to five letters stand in each value.
SEVEN = both(after(4, SELF), after(3, SELF), some(letters(5)))


def sevens(*letters_at):
    """A row of states, each leading seven times to the next, with so many letters; the last leads to itself."""
    last = len(letters_at) - 1
    following = [min(x + 1, last) for x in range(last + 1)]
    return (SEVEN, tuple(((x,) * 4, (x,) * 3, tuple(range(k))) for x, k in zip(following, letters_at)))


def numbers_in(value):
    return sum(numbers_in(x) for x in value) if isinstance(value, tuple) else 1


class Unfoldings(unittest.TestCase):

    def test_some_unfoldings(self):
        coin = (chance(SELF), (((0, 1, 2), (1, 1, 2)), ((0, 1, 1),)))
        lamp = (both(letters(2), SELF), ((0, 1), (1, 0)))
        bag = (many(SELF), (((1, 2), (2, 1)), (), ((1, 1),)))
        for s, state, expected in (
            (ring(3), 1, [0, 0, 0, 0, 0, 0]),
            ((letters(3), (2, 1)), 0, [0, 2, 2, 2, 2, 2]),
            (line(3), 2, [0, (0,), ((0,),), (((),),), (((),),), (((),),)]),
            (line(3), 0, [0, (), (), (), (), ()]),
            (lamp, 0, [0, (0, 0), (0, (1, 0)), (0, (1, (0, 0))), (0, (1, (0, (1, 0))))]),
            (coin, 0, [0, ((0, 1, 1),), ((((0, 1, 1),), 1, 1),)]),
            (bag, 0, [0, ((0, 3),), (((), 2), (((0, 1),), 1)), (((), 2), ((((), 1),), 1))]),
            ((either(SELF, letters(2)), ((0, 1), (1, 1))), 0, [0, (0, 0), (0, (1, 1)), (0, (1, 1))]),
            ((after(0, SELF), ((),)), 0, [0, (), ()]),
        ):
            for deep, told in enumerate(expected):
                self.assertEqual(unfolding(s, state, deep), told)

    def test_ordered_anew(self):
        s = (both(some(SELF), letters(3)), (((1, 2, 3), 0), ((), 2), ((), 1), ((2,), 0)))
        self.assertEqual(unfolding(s, 0, 1), ((0,), 0))
        self.assertEqual(unfolding(s, 0, 2), ((((), 1), ((), 2), ((0,), 0)), 0))
        self.assertEqual(unfolding(s, 0, 3), ((((), 1), ((), 2), ((((), 1),), 0)), 0))

    def test_by_plain_images(self):
        for s, _ in tried_systems(300):
            for state, deep in product(range(len(s[1])), range(6)):
                told = plain_unfolding(s, state, deep)
                if numbers_in(told) <= 20000:
                    self.assertEqual(unfolding(s, state, deep), told)
                else:
                    self.assertIs(error_of(unfolding, s, state, deep), TooMuch)

    def test_tell_what_agrees_on_formulas_of_the_depth(self):
        for s in [s for s, _ in tried_systems(150)] + [line(9), ring(4)]:
            for deep in range(6):
                told = [plain_unfolding(s, state, deep) for state in range(len(s[1]))]
                numbers = ranks(s, deep)
                for x, y in product(range(len(s[1])), repeat=2):
                    self.assertIs(told[x] == told[y], numbers[x] == numbers[y])

    def test_twenty_thousand_numbers(self):
        s = sevens(1, 1, 2, 2, 1, 0)
        told = unfolding(s, 0, 5)
        self.assertEqual(numbers_in(told), 20000)
        self.assertEqual(told, plain_unfolding(s, 0, 5))
        for more in (sevens(2, 1, 2, 2, 1, 0), sevens(1, 2, 2, 2, 1, 0), sevens(1, 1, 2, 2, 2, 0)):
            self.assertGreater(numbers_in(plain_unfolding(more, 0, 5)), 20000)
            self.assertIs(error_of(unfolding, more, 0, 5), TooMuch)
            self.assertEqual(unfolding(more, 0, 4), plain_unfolding(more, 0, 4))
            self.assertEqual(unfolding(more, 1, 4), plain_unfolding(more, 1, 4))
        self.assertEqual(numbers_in(plain_unfolding(sevens(2, 1, 2, 2, 1, 0), 0, 5)), 20001)

    def test_counts_chances_and_indexes_are_numbers_too(self):
        for shape, value, own in (
            (many(SELF), ((0, 1),), 1), (chance(SELF), ((0, 1, 1),), 2), (either(SELF, SELF), (0, 0), 1),
        ):
            # Sixteen states stand in the value of the one state, each with its own numbers beside it.
            s = (after(4, after(4, shape)), (((value,) * 4,) * 4,))
            size = 1
            for deep in range(6):
                if size > 20000:
                    self.assertIs(error_of(unfolding, s, 0, deep), TooMuch)
                else:
                    self.assertEqual(numbers_in(unfolding(s, 0, deep)), size)
                size = 16 * (size + own)

    def test_what_becomes_one_counts_once(self):
        s = (some(SELF), (tuple(range(60)),) * 60)
        self.assertEqual(unfolding(s, 7, 5), (((((0,),),),),))
        s = (some(both(SELF, SELF)), (tuple(product(range(10), repeat=2)),) * 10)
        told = unfolding(s, 7, 5)
        self.assertEqual(told, plain_unfolding(s, 7, 5))
        self.assertEqual(numbers_in(told), 32)

    def test_states_that_are_not_reached_count_for_nothing(self):
        wide = after(4, after(4, after(4, either(SELF, letters(1)))))
        large, small = ((((0, 0),) * 4,) * 4,) * 4, ((((1, 0),) * 4,) * 4,) * 4
        next_is_large = ((((1, 0),) * 4,) * 4,) * 3 + ((((1, 0),) * 4,) * 3 + (((1, 0),) * 3 + ((0, 0),),),)
        s = (wide, (large, small, next_is_large))
        for deep in range(6):
            self.assertEqual(unfolding(s, 1, deep), small if deep > 0 else 0)
        self.assertEqual(numbers_in(unfolding(s, 0, 2)), 64 * 129)
        self.assertEqual(numbers_in(unfolding(s, 2, 3)), 127 + 64 * 129)
        self.assertIs(error_of(unfolding, s, 0, 3), TooMuch)
        self.assertIs(error_of(unfolding, s, 2, 4), TooMuch)

    def test_far_too_much_is_refused_at_once(self):
        wide = after(4, after(4, after(4, SELF)))
        still = (wide, (((((0,) * 4,) * 4,) * 4),))
        mixed = (both(wide, letters(2)), tuple(
            (tuple(tuple(tuple((x * a + b * c + 1) % 60 for a in range(4)) for b in range(4)) for c in range(4)), x % 2)
            for x in range(60)
        ))
        for s in (still, mixed):
            self.assertEqual(unfolding(s, 0, 2), plain_unfolding(s, 0, 2))
            for deep in (3, 4, 5):
                self.assertIs(error_of(unfolding, s, 0, deep), TooMuch)

    def test_refused(self):
        for s, error in WRONG_SYSTEMS:
            self.assertIs(error_of(unfolding, s, None, 0), error)
            self.assertIs(error_of(unfolding, s, 0, 5), error)
        for x in WRONG + [2, 3, (0,), "0"]:
            self.assertIs(error_of(unfolding, ring(2), x, 0), BadState)
            self.assertIs(error_of(unfolding, sevens(5, 5), x, 5), BadState)
        self.assertIs(error_of(unfolding, (SELF, ()), 0, 1), BadState)
        self.assertIs(error_of(unfolding, ring(61), 0, 1), BadSystem)


if __name__ == "__main__":
    unittest.main()

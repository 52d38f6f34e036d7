"""Promises 1.2, 1.3 and the states in a value of 2.2."""

import unittest
from itertools import product

from manyshaped.errors import BadShape
from manyshaped.value import count_values, image, is_value, states_in
from things import (
    SELF, WRONG, after, all_values, both, chance, doubled, either, error_of, letters, many, nested, plain_image, some,
    wrapped,
)

SMALL = [
    SELF, letters(2), both(SELF), both(SELF, letters(2)), either(SELF, letters(2)), after(0, SELF), after(2, SELF),
    some(SELF), some(both(SELF, SELF)), both(some(SELF), SELF), some(some(SELF)), either(some(SELF), SELF),
    after(1, some(SELF)), some(either(letters(1), SELF)), both(after(2, letters(1)), SELF), some(after(1, SELF)),
]
HALVES = ((0, 1, 2), (1, 1, 2))
# Values over three states, of shapes that hold sets, bags and chances in one another.
MIXED = [
    (many(SELF), ((0, 2), (1, 3), (2, 1))),
    (chance(SELF), ((0, 1, 6), (1, 1, 3), (2, 1, 2))),
    (some(many(SELF)), ((), ((0, 1), (1, 1)), ((0, 2),), ((1, 2),))),
    (many(some(SELF)), (((), 5), ((0,), 1), ((0, 1), 2), ((1,), 3))),
    (chance(many(SELF)), (((), 1, 7), (((0, 1),), 2, 7), (((1, 1),), 3, 7), (((2, 1),), 1, 7))),
    (many(chance(SELF)), ((((0, 1, 1),), 1), (HALVES, 2), (((1, 1, 1),), 4))),
    (some(chance(either(SELF, letters(2)))), ((((0, 0), 1, 3), ((0, 1), 2, 3)), (((0, 1), 1, 3), ((1, 0), 2, 3)))),
    (both(some(SELF), after(2, many(SELF)), SELF), ((0, 1, 2), (((0, 1), (2, 9)), ()), 2)),
    (either(letters(3), chance(both(SELF, letters(2)))), (1, (((0, 0), 1, 4), ((0, 1), 1, 4), ((1, 0), 1, 2)))),
    (chance(chance(SELF)), ((((0, 1, 1),), 1, 3), (HALVES, 1, 3), (((1, 1, 1),), 1, 3))),
]


def universe():
    """All tuples with at most two things within, each a thing or a tuple with at most two things."""
    things = [0, 1, 2, -1, True, False, None, "a"]
    for _ in range(2):
        things = things + [xs for length in range(3) for xs in product(things, repeat=length)]
    return things


class Values(unittest.TestCase):

    def check(self, shape, states, good, bad):
        for x in good:
            self.assertIs(is_value(shape, states, x), True, (shape, x))
        for x in bad:
            self.assertIs(is_value(shape, states, x), False, (shape, x))

    def test_letters_and_states(self):
        self.check(letters(3), 0, [0, 1, 2], [-1, 3, True, False, None, "0", (), (0,)])
        self.check(SELF, 2, [0, 1], [-1, 2, True, False, None, "0", (), (0,)])
        self.check(SELF, 0, [], [0, -1, False])

    def test_tuples(self):
        shape = both(letters(2), SELF)
        self.check(shape, 3, [(0, 0), (1, 2)], [(2, 0), (0, 3), (0,), (0, 0, 0), (), 0, (True, 0), (0, True), "00"])
        self.check(both(SELF), 1, [(0,)], [0, (), ((0,),)])
        self.check(after(2, SELF), 2, [(0, 0), (1, 0)], [(0,), (0, 0, 0), (0, 2), (0, True), (), None])
        self.check(after(0, SELF), 0, [()], [(0,), 0, None, ((),)])

    def test_pairs(self):
        shape = either(letters(2), SELF)
        self.check(shape, 3, [(0, 1), (1, 2)], [
            (0, 2), (1, 3), (2, 0), (-1, 0), (True, 0), (False, 0), (0,), (0, 0, 0), (), "01", (None, 0), (0, True),
            ((0, 1),), ("0", 0), (10 ** 30, 0),
        ])

    def test_sets(self):
        self.check(some(SELF), 3, [(), (0,), (0, 2), (0, 1, 2)], [
            (1, 0), (0, 0), (3,), (True,), (0, True), (False, 1), 0, None, "", ((0,),), (0, None), (0, "1"), (-1, 0),
        ])
        # (0, 2) stands before (1,), and (0,) before (0, 2), as tuples do.
        self.check(some(some(SELF)), 3, [((), (0,), (0, 2), (1,))], [
            ((0,), ()), ((0,), (1,), (0, 2)), ((0, 2), (0,)), ((), ()), ((1, 0),),
        ])

    def test_bags(self):
        self.check(many(SELF), 3, [(), ((0, 1),), ((0, 5), (2, 1))], [
            ((0, 0),), ((0, -1), (1, 2)), ((1, 1), (0, 1)), ((0, 1), (0, 1)), ((0, 1), (0, 2)), ((3, 1),), ((0, True),),
            ((True, 1),), ((0,),), ((0, 1, 1),), (0, 1), 0, None, ((0, "1"),), ((0, None),), ((0, (1,)),), "ab",
            ("ab",), (0,),
        ])
        self.check(many(letters(3)), 0, [((0, 1000),), ((0, 1), (1, 998), (2, 1)), ((0, 500), (2, 500))], [
            ((0, 1001),), ((0, 1), (1, 998), (2, 2)), ((0, 500), (2, 501)), ((0, 10 ** 40),),
        ])
        self.check(many(many(SELF)), 2, [(((), 1), (((0, 1),), 1), (((0, 1), (1, 1)), 1), (((0, 2),), 1000 - 3))], [
            ((((0, 1),), 1), ((), 1)), ((((0, 2),), 1), (((0, 1), (1, 1)), 1)),
        ])

    def test_chances(self):
        self.check(chance(SELF), 3, [((0, 1, 1),), HALVES, ((0, 1, 6), (1, 1, 3), (2, 1, 2))], [
            (), ((0, 1, 2),), ((0, 2, 2),), ((0, 2, 4), (1, 1, 2)), ((0, 1, 2), (1, 1, 3)), ((1, 1, 2), (0, 1, 2)),
            ((0, 1, 2), (0, 1, 2)), ((0, 1, 2), (1, 1, 2), (2, 1, 2)), ((0, 0, 1), (1, 1, 1)), ((0, 3, 2), (1, -1, 2)),
            ((0, -1, -1),), ((0, 2, 1),), ((0, True, 1),), ((0, 1, True),), ((True, 1, 1),), ((3, 1, 1),), ((0, 1),),
            ((0, 1, 1, 1),), (0, 1, 1), 0, None, "", ((0, "1", 1),), ((0, 1, None),), ((0, (), ()),), ((0, 0, 0),),
            ((0, 1, 0),), ("abc",),
        ])
        self.check(chance(chance(SELF)), 2, [((HALVES, 1, 3), (((1, 1, 1),), 2, 3))], [((((1, 1, 1),), 1, 1), HALVES)])

    def test_the_bound_of_the_lows(self):
        def of(low):
            return ((0, 1, low), (1, low - 1, low))

        self.check(chance(SELF), 2, [of(10 ** 30 - 1), of(10 ** 29)], [of(10 ** 30), of(10 ** 30 + 1), of(10 ** 60)])

        # The lows are all far below 10**30 here, their least common multiple is their product by pairs.
        def with_lows(a, b):
            return ((0, 1, a), (1, a // 2 - 1, a), (2, b - 2, 2 * b), (3, 1, b))

        good = [with_lows(2 ** 30, 5 ** 29), with_lows(2 ** 29, 5 ** 30), with_lows(2 ** 30, 3 ** 43)]
        bad = [with_lows(2 ** 30, 5 ** 30), with_lows(2 ** 30, 3 ** 44), with_lows(2 ** 31, 5 ** 30)]
        self.check(chance(SELF), 4, good, bad)
        self.check(chance(SELF), 4, [], [good[0][:2] + good[1][2:], good[0][:3] + ((3, 2, 5 ** 29),)])

    def test_all_small_tuples(self):
        things = universe()
        for shape in SMALL:
            for states in (0, 1, 2):
                right = {repr(x) for x in all_values(shape, states)}
                for x in things:
                    self.assertIs(is_value(shape, states, x), repr(x) in right)

    def test_all_values_of_small_shapes(self):
        for shape in SMALL:
            for states in (0, 1, 2):
                for x in all_values(shape, states):
                    self.assertIs(is_value(shape, states, x), True)

    def test_mixed(self):
        for shape, value in MIXED:
            self.assertIs(is_value(shape, 3, value), True)
            self.assertIs(is_value(shape, 2, value), states_in(shape, value)[-1] < 2)
            self.assertIs(is_value(shape, 3, value + value), False)

    def test_wrong_things(self):
        shapes = [both(SELF, SELF), either(SELF, SELF), after(2, SELF), some(SELF), many(SELF), chance(SELF)]
        shapes = shapes + [SELF, letters(5)] + [wrapped(5, SELF, wrap) for wrap in (some, many, chance, both)]
        for shape in shapes:
            for x in WRONG:
                self.assertIs(is_value(shape, 3, x), False)
            for x in (nested(98, ()), doubled(98, ()), doubled(98, 0)):
                self.assertIs(is_value(shape, 3, (0, x)), False)
                self.assertIs(is_value(shape, 3, (x, 1)), False)
                self.assertIs(is_value(shape, 3, (x, x)), False)
                self.assertIs(is_value(shape, 3, (x, 1, 1)), False)

    def test_no_bound_on_the_numbers_within(self):
        self.assertIs(is_value(some(SELF), 5000, tuple(range(5000))), True)

    def test_refused(self):
        for x in WRONG + [wrapped(6, SELF)]:
            self.assertIs(error_of(is_value, x, 2, 0), BadShape)
            self.assertIs(error_of(is_value, x, 2, x), BadShape)


class Images(unittest.TestCase):

    def test_each_sort(self):
        self.assertEqual(image(SELF, [4, 7], 1), 7)
        self.assertEqual(image(letters(3), [4, 7], 1), 1)
        self.assertEqual(image(both(SELF, letters(2), SELF), [4, 7], (1, 1, 0)), (7, 1, 4))
        self.assertEqual(image(either(SELF, letters(2)), [4, 7], (0, 1)), (0, 7))
        self.assertEqual(image(either(SELF, letters(2)), [4, 7], (1, 1)), (1, 1))
        self.assertEqual(image(after(3, SELF), [4, 7], (1, 0, 1)), (7, 4, 7))
        self.assertEqual(image(after(0, SELF), [], ()), ())
        self.assertEqual(image(some(SELF), [7, 4, 5], (0, 1, 2)), (4, 5, 7))
        self.assertEqual(image(many(SELF), [7, 4, 5], ((0, 1), (1, 2), (2, 3))), ((4, 2), (5, 3), (7, 1)))
        self.assertEqual(image(chance(SELF), [7, 4], ((0, 1, 3), (1, 2, 3))), ((4, 2, 3), (7, 1, 3)))

    def test_equal_values(self):
        self.assertEqual(image(some(SELF), [3, 1, 3], (0, 1, 2)), (1, 3))
        self.assertEqual(image(some(SELF), [0, 0, 0], (0, 1, 2)), (0,))
        self.assertEqual(image(some(SELF), [0], ()), ())
        self.assertEqual(image(many(SELF), [3, 1, 3], ((0, 1), (1, 5), (2, 2))), ((1, 5), (3, 3)))
        self.assertEqual(image(many(SELF), [0], ()), ())
        self.assertEqual(image(chance(SELF), [2, 1, 2], ((0, 1, 6), (1, 1, 2), (2, 1, 3))), ((1, 1, 2), (2, 1, 2)))
        self.assertEqual(image(chance(SELF), [5, 5, 5], ((0, 1, 6), (1, 1, 2), (2, 1, 3))), ((5, 1, 1),))
        self.assertEqual(image(chance(SELF), [1, 1, 0], ((0, 1, 6), (1, 1, 6), (2, 2, 3))), ((0, 2, 3), (1, 1, 3)))

    def test_equal_values_that_are_tuples(self):
        self.assertEqual(image(some(some(SELF)), [0, 0, 1], ((0,), (0, 1), (1,), (2,))), ((0,), (1,)))
        self.assertEqual(image(many(both(SELF, SELF)), [1, 1], (((0, 1), 2), ((1, 0), 3))), (((1, 1), 5),))
        self.assertEqual(image(some(many(SELF)), [0, 0], (((0, 1), (1, 1)), ((0, 2),))), (((0, 2),),))
        self.assertEqual(image(some(chance(SELF)), [0, 0], (HALVES, ((0, 1, 1),))), (((0, 1, 1),),))

    def test_mixed(self):
        for shape, value in MIXED:
            for f in product(range(3), repeat=3):
                told = image(shape, list(f), value)
                self.assertEqual(told, plain_image(shape, f, value))
                self.assertIs(is_value(shape, 3, told), True)

    def test_all_small_values(self):
        for shape in SMALL:
            for value in all_values(shape, 2):
                for f in product((0, 1, 9), repeat=2):
                    told = image(shape, list(f), value)
                    self.assertEqual(told, plain_image(shape, f, value))
                    self.assertIs(is_value(shape, 10, told), True)

    def test_two_steps_are_one(self):
        for shape, value in MIXED:
            for f in product(range(3), repeat=3):
                for g in ([2, 1, 0], [0, 0, 1], [1, 1, 1]):
                    at_once = image(shape, [g[y] for y in f], value)
                    self.assertEqual(image(shape, g, image(shape, list(f), value)), at_once)

    def test_large_lows(self):
        low = 10 ** 30 - 1
        self.assertEqual(image(chance(SELF), [0, 0], ((0, 1, low), (1, low - 1, low))), ((0, 1, 1),))
        rows = tuple((x, 1, 60) for x in range(60))
        self.assertEqual(image(chance(SELF), [x // 20 for x in range(60)], rows), ((0, 1, 3), (1, 1, 3), (2, 1, 3)))

    def test_the_list_stays_as_it_was(self):
        for shape, value in MIXED:
            f = [2, 0, 0]
            image(shape, f, value)
            self.assertEqual(f, [2, 0, 0])

    def test_deep(self):
        value = ((((((0,), (1,)),),),),)
        self.assertEqual(image(wrapped(6, SELF), [1, 1], value), ((((((1,),),),),),))
        deep = 0
        for _ in range(5):
            deep = ((deep, 7),)
        self.assertEqual(image(wrapped(5, SELF, many), [0], deep), deep)


class StatesIn(unittest.TestCase):

    def test_each_sort(self):
        self.assertEqual(states_in(SELF, 3), [3])
        self.assertEqual(states_in(letters(4), 3), [])
        self.assertEqual(states_in(both(SELF, letters(4), SELF), (5, 3, 2)), [2, 5])
        self.assertEqual(states_in(either(SELF, letters(4)), (0, 3)), [3])
        self.assertEqual(states_in(either(SELF, letters(4)), (1, 3)), [])
        self.assertEqual(states_in(after(3, SELF), (4, 1, 4)), [1, 4])
        self.assertEqual(states_in(after(0, SELF), ()), [])
        self.assertEqual(states_in(some(SELF), (1, 4)), [1, 4])
        self.assertEqual(states_in(some(SELF), ()), [])
        self.assertEqual(states_in(many(SELF), ((1, 3), (4, 2))), [1, 4])
        self.assertEqual(states_in(chance(SELF), ((7, 1, 2), (9, 1, 2))), [7, 9])
        self.assertEqual(states_in(some(both(letters(2), SELF)), ((0, 4), (1, 2))), [2, 4])

    def test_mixed(self):
        for shape, value in MIXED:
            told = states_in(shape, value)
            for x in range(3):
                moved = [9 if y == x else y for y in range(3)]
                self.assertEqual(x in told, plain_image(shape, moved, value) != value)

    def test_told_anew(self):
        told = states_in(some(SELF), (1, 2))
        told.append(5)
        self.assertEqual(states_in(some(SELF), (1, 2)), [1, 2])


class Counts(unittest.TestCase):

    def check(self, shape, counts):
        for states, count in counts.items():
            told = count_values(shape, states)
            self.assertEqual((told, told.__class__), (count, count.__class__), (shape, states))

    def test_small_shapes(self):
        for shape in SMALL:
            for states in range(3):
                self.check(shape, {states: len(all_values(shape, states))})

    def test_letters_and_states(self):
        self.check(letters(4), {0: 4, 20: 4})
        self.check(SELF, {0: 0, 1: 1, 20: 20})

    def test_tuples(self):
        self.check(both(SELF, letters(3), SELF), {0: 0, 2: 12, 20: 1200})
        self.check(after(3, SELF), {0: 0, 2: 8, 20: 8000})
        self.check(after(0, SELF), {0: 1, 20: 1})
        self.check(after(0, chance(SELF)), {0: 1, 1: 1, 2: 1})
        self.check(after(0, after(4, after(4, SELF))), {20: 1})
        self.check(after(2, chance(SELF)), {0: 0, 1: 1, 2: None})
        self.check(after(2, after(4, SELF)), {5: 5 ** 8, 13: 13 ** 8, 14: None})

    def test_at_the_bound(self):
        full = both(after(4, SELF), after(4, SELF), SELF)
        self.check(full, {10: 10 ** 9, 11: None})
        self.check(either(full, letters(1)), {10: None, 9: 9 ** 9 + 1})
        self.check(either(both(full), some(SELF)), {0: 1})
        self.check(both(full, letters(1)), {10: 10 ** 9})
        self.check(both(full, letters(2)), {10: None})

    def test_pairs(self):
        self.check(either(SELF, SELF, letters(3)), {0: 3, 5: 13})
        self.check(either(SELF, chance(SELF)), {0: 0, 1: 2, 2: None})
        self.check(either(SELF), {0: 0})

    def test_without_values(self):
        endless = chance(letters(2))
        self.check(both(endless, SELF), {0: 0, 1: None})
        self.check(both(SELF, endless), {0: 0, 1: None})
        self.check(both(after(4, after(4, letters(5))), SELF), {0: 0, 1: None})
        self.check(after(4, both(endless, SELF)), {0: 0})
        self.check(some(both(endless, SELF)), {0: 1, 1: None})

    def test_sets(self):
        self.check(some(SELF), {0: 1, 1: 2, 20: 2 ** 20})
        self.check(some(either(SELF, letters(5), letters(4))), {20: 2 ** 29, 19: 2 ** 28})
        self.check(some(either(SELF, letters(5), letters(5))), {20: None, 19: 2 ** 29})
        self.check(some(some(SELF)), {0: 2, 1: 4, 4: 2 ** 16, 5: None})
        self.check(some(after(4, after(4, SELF))), {2: None, 20: None})
        self.check(some(after(4, SELF)), {13: None, 2: 2 ** 16})
        self.check(some(chance(SELF)), {0: 1, 1: 2, 2: None})

    def test_bags(self):
        pairs = sum(1001 - k for k in range(1001))
        triples = sum((1001 - k) * (1002 - k) // 2 for k in range(1001))
        self.check(many(SELF), {0: 1, 1: 1001, 2: pairs, 3: triples, 4: None, 20: None})
        self.check(many(many(SELF)), {0: 1001, 1: None})
        self.check(many(chance(SELF)), {0: 1, 1: 1001, 2: None})
        self.check(many(after(4, after(4, SELF))), {20: None})

    def test_chances(self):
        self.check(chance(SELF), {0: 0, 1: 1, 2: None, 20: None})
        self.check(chance(chance(SELF)), {0: 0, 1: 1, 2: None})
        self.check(chance(some(SELF)), {0: 1, 1: None})
        self.check(chance(many(SELF)), {0: 1, 1: None})
        self.check(chance(letters(1)), {0: 1})
        self.check(chance(after(4, after(4, SELF))), {0: 0, 1: 1, 20: None})

    def test_refused(self):
        for x in WRONG + [wrapped(6, SELF)]:
            self.assertIs(error_of(count_values, x, 2), BadShape)


if __name__ == "__main__":
    unittest.main()

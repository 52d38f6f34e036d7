"""Promises 2.1, 2.2 and 2.3: systems, the states that are reached, maps and sums."""

import unittest
from itertools import combinations, product

from manyshaped.errors import BadMap, BadShape, BadState, BadSystem, TooMuch
from manyshaped.system import check_system, is_map, part, reached, summed
from manyshaped.value import states_in
from things import (
    BAD_SHAPES, NO_SYSTEMS, SELF, SYSTEMS, WRONG, after, both, chance, either, error_of, letters, many, plain_image,
    ring, some,
)

def pairs(number):
    """A set with so many pairs of states, that is with twice as many numbers."""
    return tuple((x // 50, x % 50) for x in range(number))


def crowded(value, shape, singles):
    """A system of 50 states with a value and some more numbers in its first state."""
    empty = ((), ())
    return (both(some(shape), some(SELF)), ((value, tuple(range(singles))),) + (empty,) * 49)


class Systems(unittest.TestCase):

    def test_good(self):
        for s in SYSTEMS + [ring(1), ring(7), (SELF, ()), (chance(SELF), ()), (after(0, SELF), ((), ()))]:
            self.assertIsNone(check_system(s))

    def test_what_is_none(self):
        for s in NO_SYSTEMS:
            self.assertIs(error_of(check_system, s), BadSystem)
        for x in WRONG:
            self.assertIs(error_of(check_system, (SELF, x)), BadSystem)
            for shape in (SELF, letters(1), some(SELF), after(2, SELF), chance(SELF)):
                self.assertIs(error_of(check_system, (shape, (x,))), BadSystem)

    def test_a_pair_whose_shape_is_none(self):
        for s in BAD_SHAPES:
            self.assertIs(error_of(check_system, s), BadShape)

    def test_number_of_states(self):
        self.assertIsNone(check_system(ring(60)))
        self.assertIs(error_of(check_system, ring(61)), BadSystem)
        self.assertIsNone(check_system((some(SELF), ((),) * 60)))
        self.assertIs(error_of(check_system, (some(SELF), ((),) * 61)), BadSystem)

    def test_numbers_in_a_value(self):
        two = both(SELF, SELF)
        self.assertIsNone(check_system(crowded(pairs(100), two, 0)))
        self.assertIs(error_of(check_system, crowded(pairs(100), two, 1)), BadSystem)
        self.assertIsNone(check_system(crowded(pairs(99), two, 2)))
        self.assertIs(error_of(check_system, crowded(pairs(99), two, 3)), BadSystem)

    def test_counts_chances_and_indexes_are_numbers_too(self):
        for value, shape, numbers in (
            ((tuple((x, 1) for x in pairs(50)),), many(both(SELF, SELF)), 150),
            ((tuple((x, 1, 40) for x in pairs(40)),), chance(both(SELF, SELF)), 160),
            (tuple((k, x) for k in range(2) for x in range(40)), either(SELF, SELF), 160),
            ((tuple((x, 2) for x in range(50)), tuple((x, 3) for x in range(40))), many(SELF), 180),
        ):
            self.assertIsNone(check_system(crowded(value, shape, 200 - numbers)))
            self.assertIs(error_of(check_system, crowded(value, shape, 201 - numbers)), BadSystem)

    def test_numbers_in_several_values(self):
        self.assertIsNone(check_system((some(both(SELF, SELF)), (pairs(100),) * 50)))


class Reached(unittest.TestCase):

    def test_rings_and_lines(self):
        self.assertEqual(reached(ring(5), 3), [0, 1, 2, 3, 4])
        line = (some(SELF), tuple((x - 1,) if x > 0 else () for x in range(60)))
        self.assertEqual(reached(line, 0), [0])
        self.assertEqual(reached(line, 7), list(range(8)))
        self.assertEqual(reached(line, 59), list(range(60)))

    def test_each_sort(self):
        for s, from_first in zip(SYSTEMS, ([0, 1, 2], [0, 1, 2], [0, 1, 2], [0, 1, 2], [0, 1, 2, 3], [0, 1, 2, 3],
                                           [0, 2, 3], [0, 1, 2, 3], [0])):
            self.assertEqual(reached(s, 0), from_first)
            self.assertEqual(reached(s, 3), [3])

    def test_is_the_least_list_that_holds_what_it_leads_to(self):
        for shape, values in SYSTEMS:
            steps = [states_in(shape, value) for value in values]
            for state in range(4):
                closed = [
                    list(xs) for length in range(5) for xs in combinations(range(4), length)
                    if state in xs and all(y in xs for x in xs for y in steps[x])
                ]
                self.assertEqual(reached((shape, values), state), closed[0])

    def test_told_anew(self):
        s = ring(3)
        reached(s, 0).append(9)
        self.assertEqual(reached(s, 0), [0, 1, 2])

    def test_refused(self):
        for call in (reached, part):
            for s in NO_SYSTEMS:
                self.assertIs(error_of(call, s, None), BadSystem)
            for s in BAD_SHAPES:
                self.assertIs(error_of(call, s, None), BadShape)
            for x in WRONG + [3, 4, 10 ** 40, True, False, "0", (0,)]:
                self.assertIs(error_of(call, ring(3), x), BadState)
            for x in (0, 1, -1, None):
                self.assertIs(error_of(call, (SELF, ()), x), BadState)


class Parts(unittest.TestCase):

    def test_leaves_states_out(self):
        self.assertEqual(part((SELF, (2, 0, 4, 1, 2)), 2), ((SELF, (1, 0)), (2, 4)))
        self.assertEqual(part((SELF, (2, 0, 4, 1, 2)), 3), ((SELF, (2, 0, 4, 1, 2)), (0, 1, 2, 3, 4)))
        s = (both(letters(2), some(SELF)), ((1, (3,)), (0, (0, 3)), (1, ()), (0, (3, 4)), (1, (4,))))
        self.assertEqual(part(s, 1), ((s[0], ((1, (2,)), (0, (0, 2)), (0, (2, 3)), (1, (3,)))), (0, 1, 3, 4)))
        self.assertEqual(part(s, 2), ((s[0], ((1, ()),)), (2,)))
        t = (chance(SELF), (((0, 1, 1),), ((1, 1, 3), (3, 2, 3)), ((2, 1, 1),), ((3, 1, 1),)))
        self.assertEqual(part(t, 1), ((t[0], (((0, 1, 3), (1, 2, 3)), ((1, 1, 1),))), (1, 3)))
        u = (many(SELF), (((2, 4),), (), ((2, 1), (3, 5)), ((0, 1),)))
        self.assertEqual(part(u, 3), ((u[0], (((1, 4),), ((1, 1), (2, 5)), ((0, 1),))), (0, 2, 3)))

    def test_whole(self):
        self.assertEqual(part(ring(60), 17), (ring(60), tuple(range(60))))

    def test_is_mapped_into_the_whole(self):
        for s in SYSTEMS:
            for state in range(4):
                inner, states = part(s, state)
                self.assertEqual(states, tuple(reached(s, state)))
                self.assertIsNone(check_system(inner))
                self.assertIs(is_map(inner, s, list(states)), True)


class Sums(unittest.TestCase):

    def test_values(self):
        self.assertEqual(summed((SELF, (1, 0)), (SELF, (0, 2, 1))), (SELF, (1, 0, 2, 4, 3)))
        s = (both(letters(3), some(SELF)), ((2, (0, 1)), (1, ())))
        self.assertEqual(summed(s, s), (s[0], ((2, (0, 1)), (1, ()), (2, (2, 3)), (1, ()))))
        t = (chance(SELF), (((0, 1, 2), (1, 1, 2)), ((0, 1, 1),)))
        self.assertEqual(summed(t, t)[1][2:], (((2, 1, 2), (3, 1, 2)), ((2, 1, 1),)))

    def test_empty(self):
        self.assertEqual(summed((SELF, ()), ring(3)), ring(3))
        self.assertEqual(summed(ring(3), (SELF, ())), ring(3))
        self.assertEqual(summed((SELF, ()), (SELF, ())), (SELF, ()))

    def test_both_are_mapped_into_it(self):
        for s in SYSTEMS:
            t = part(s, 3)[0]
            told = summed(s, t)
            self.assertIsNone(check_system(told))
            self.assertIs(is_map(s, told, [0, 1, 2, 3]), True)
            self.assertIs(is_map(t, told, [4]), True)

    def test_number_of_states(self):
        self.assertEqual(len(summed(ring(30), ring(30))[1]), 60)
        self.assertEqual(len(summed(ring(60), (SELF, ()))[1]), 60)
        self.assertIs(error_of(summed, ring(30), ring(31)), TooMuch)
        self.assertIs(error_of(summed, ring(1), ring(60)), TooMuch)
        self.assertIs(error_of(summed, ring(60), ring(60)), TooMuch)

    def test_refused(self):
        for s in NO_SYSTEMS:
            self.assertIs(error_of(summed, s, ring(2)), BadSystem)
            self.assertIs(error_of(summed, ring(2), s), BadSystem)
            self.assertIs(error_of(summed, s, (None, ())), BadSystem)
        for s in BAD_SHAPES:
            self.assertIs(error_of(summed, s, ring(2)), BadShape)
            self.assertIs(error_of(summed, ring(2), s), BadShape)
            self.assertIs(error_of(summed, s, None), BadShape)
        self.assertIs(error_of(summed, ring(60), None), BadSystem)
        self.assertIs(error_of(summed, ring(61), (None, ())), BadSystem)

    def test_unlike_shapes(self):
        self.assertIs(error_of(summed, ring(2), (some(SELF), ())), BadShape)
        self.assertIs(error_of(summed, ring(60), (after(1, SELF), ((0,),) * 60)), BadShape)
        self.assertIs(error_of(summed, (letters(1), ()), (letters(2), ())), BadShape)
        self.assertIs(error_of(summed, ring(2), (some(SELF), (0,))), BadSystem)


class Maps(unittest.TestCase):

    def test_rings(self):
        self.assertIs(is_map(ring(6), ring(3), [0, 1, 2, 0, 1, 2]), True)
        self.assertIs(is_map(ring(6), ring(3), [1, 2, 0, 1, 2, 0]), True)
        self.assertIs(is_map(ring(6), ring(3), [0, 1, 2, 0, 2, 1]), False)
        self.assertIs(is_map(ring(6), ring(1), [0] * 6), True)
        self.assertIs(is_map(ring(3), ring(6), [0, 1, 2]), False)
        self.assertIs(is_map((SELF, ()), ring(6), []), True)
        self.assertIs(is_map((SELF, ()), (SELF, ()), []), True)

    def test_states_that_become_one(self):
        coin = (chance(SELF), (((1, 1, 3), (2, 2, 3)), ((0, 1, 1),), ((0, 1, 1),)))
        self.assertIs(is_map(coin, (chance(SELF), (((1, 1, 1),), ((0, 1, 1),))), [0, 1, 1]), True)
        bag = (many(SELF), (((1, 2), (2, 3)), (), ()))
        self.assertIs(is_map(bag, (many(SELF), (((1, 5),), ())), [0, 1, 1]), True)
        self.assertIs(is_map(bag, (many(SELF), (((1, 4),), ())), [0, 1, 1]), False)
        self.assertIs(is_map(bag, (many(SELF), ((), ((0, 5),))), [1, 0, 0]), True)
        tree = (some(SELF), ((1, 2), (), ()))
        self.assertIs(is_map(tree, (some(SELF), ((1,), ())), [0, 1, 1]), True)
        self.assertIs(is_map(tree, (some(SELF), ((1,), (1,))), [0, 1, 1]), False)

    def test_all_lists(self):
        for shape, values in SYSTEMS:
            for t in (values, part((shape, values), 1)[0][1], part((shape, values), 3)[0][1]):
                for f in product(range(len(t)), repeat=4):
                    right = all(plain_image(shape, f, values[x]) == t[f[x]] for x in range(4))
                    self.assertIs(is_map((shape, values), (shape, t), list(f)), right)

    def test_no_list_of_states(self):
        s, t = ring(2), ring(3)
        for f in ([], [0], [0, 1, 2], [0, 3], [-1, 0], [0, True], [False, 1], [0, None], [0, "1"], [0, (1,)], [[0], 1]):
            self.assertIs(error_of(is_map, s, t, f), BadMap)
        for x in WRONG + [(0, 1), (0, 0), "01"]:
            self.assertIs(error_of(is_map, s, t, x), BadMap)
            self.assertIs(error_of(is_map, s, t, [0, x]), BadMap)
            self.assertIs(error_of(is_map, s, t, [x, 0]), BadMap)
        self.assertIs(error_of(is_map, s, (SELF, ()), [0, 0]), BadMap)
        self.assertIs(error_of(is_map, (SELF, ()), t, [0]), BadMap)
        self.assertIs(error_of(is_map, t, s, [0, 1, 2]), BadMap)

    def test_refused(self):
        for s in NO_SYSTEMS:
            self.assertIs(error_of(is_map, s, ring(2), None), BadSystem)
            self.assertIs(error_of(is_map, ring(2), s, None), BadSystem)
            self.assertIs(error_of(is_map, s, (None, ()), None), BadSystem)
        for s in BAD_SHAPES:
            self.assertIs(error_of(is_map, s, ring(2), None), BadShape)
            self.assertIs(error_of(is_map, ring(2), s, None), BadShape)
            self.assertIs(error_of(is_map, s, None, None), BadShape)
        self.assertIs(error_of(is_map, ring(2), (some(SELF), ((), ())), None), BadShape)
        self.assertIs(error_of(is_map, ring(2), (some(SELF), ((), ())), [0, 0]), BadShape)

    def test_the_list_stays_as_it_was(self):
        f = [1, 2, 0]
        is_map(ring(3), ring(3), f)
        self.assertEqual(f, [1, 2, 0])


if __name__ == "__main__":
    unittest.main()

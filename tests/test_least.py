"""Promises 4.1 and 4.2: forms, the least system, and what behaves alike by its form."""

import unittest
from itertools import product

from manyshaped.alike import alike, coarsest, ranks
from manyshaped.errors import BadState
from manyshaped.least import form, quotient, same
from manyshaped.system import check_system, is_map, part, reached, summed
from plain import all_classes, plain_distance, plain_form, plain_ranks, tried_systems
from things import (
    SELF, SYSTEMS, WRONG, WRONG_SYSTEMS, after, all_values, both, chance, check_refusals_for_two, either, error_of,
    letters, line, many, plain_image, ring, some,
)

LAMP = both(letters(2), SELF)


def shuffled(s, order):
    """The system with state x under the number order[x]."""
    shape, values = s
    told = {order[x]: plain_image(shape, order, value) for x, value in enumerate(values)}
    return (shape, tuple(told[x] for x in range(len(values))))


class Forms(unittest.TestCase):

    def test_some_forms(self):
        for s, state, expected in (
            ((SELF, (1, 2, 1, 3)), 0, ((SELF, (0,)), 0)),
            ((LAMP, ((0, 1), (1, 2), (0, 1), (1, 3))), 0, ((LAMP, ((0, 1), (1, 0))), 0)),
            ((LAMP, ((0, 1), (1, 2), (0, 1), (1, 3))), 1, ((LAMP, ((0, 1), (1, 0))), 1)),
            ((LAMP, ((0, 1), (1, 2), (0, 1), (1, 3))), 3, ((LAMP, ((1, 0),)), 0)),
            ((LAMP, ((1, 1), (1, 2), (0, 2))), 0, ((LAMP, ((0, 0), (1, 0), (1, 1))), 2)),
            ((letters(3), (2, 1, 2)), 2, ((letters(3), (2,)), 0)),
            ((after(0, SELF), ((), ())), 1, ((after(0, SELF), ((),)), 0)),
            ((some(SELF), ((1, 2, 3), (), (1,), (3,))), 0, ((some(SELF), ((), (0,), (0, 1, 3), (3,))), 2)),
            ((many(SELF), (((1, 2), (2, 1)), (), ())), 0, ((many(SELF), ((), ((0, 3),))), 1)),
            ((either(SELF, SELF), ((1, 1), (0, 0), (0, 2))), 0, ((either(SELF, SELF), ((0, 1), (1, 0))), 1)),
            (
                (chance(LAMP), ((((0, 1), 1, 3), ((0, 2), 1, 6), ((1, 0), 1, 2)), (((1, 1), 1, 1),),
                                (((1, 2), 1, 1),))), 0,
                ((chance(LAMP), ((((0, 1), 1, 2), ((1, 0), 1, 2)), (((1, 1), 1, 1),))), 0),
            ),
        ):
            self.assertEqual(form(s, state), expected)

    def test_numbers_are_the_ranks_in_the_end(self):
        # By their images alone the states would be numbered otherwise, and by their first places too.
        s = (both(SELF, letters(2)), ((1, 1), (2, 1), (3, 1), (4, 0), (0, 1)))
        self.assertEqual(ranks(s, 100), [3, 2, 1, 0, 4])
        self.assertEqual(form(s, 0), ((s[0], ((4, 0), (0, 1), (1, 1), (2, 1), (3, 1))), 3))
        self.assertEqual(form(s, 3), ((s[0], ((4, 0), (0, 1), (1, 1), (2, 1), (3, 1))), 0))

    def test_by_the_words_of_the_document(self):
        for s, _ in tried_systems(250):
            for state in range(len(s[1])):
                self.assertEqual(form(s, state), plain_form(s, state))

    def test_is_least_and_its_own_form(self):
        for s, _ in tried_systems(200):
            for state in range(len(s[1])):
                told, first = form(s, state)
                self.assertIsNone(check_system(told))
                many_states = len(told[1])
                self.assertEqual(coarsest(told), tuple(range(many_states)))
                self.assertEqual(reached(told, first), list(range(many_states)))
                self.assertEqual(form(told, first), (told, first))
                self.assertEqual(ranks(told, 100), list(range(many_states)))
                self.assertEqual(alike(s, state, told, first)[0], "yes")
                inner, states = part(s, state)
                f = plain_ranks(inner, many_states)
                self.assertIs(is_map(inner, told, f), True)
                self.assertEqual(f[states.index(state)], first)

    def test_states_under_other_numbers(self):
        orders = [(1, 2, 3, 0), (3, 2, 1, 0), (2, 0, 3, 1)]
        for s in SYSTEMS:
            for order, state in product(orders, range(4)):
                self.assertEqual(form(shuffled(s, order), order[state]), form(s, state))

    def test_states_that_are_not_reached(self):
        for s in SYSTEMS:
            larger = (s[0], s[1] + s[1][:2] + s[1])
            for state in range(4):
                self.assertEqual(form(larger, state), form(s, state))
                self.assertEqual(form(part(s, state)[0], part(s, state)[1].index(state)), form(s, state))
                self.assertEqual(form(summed(s, s), state + 4), form(s, state))

    def test_twins(self):
        for s, classes in tried_systems(250):
            for x, y in product(range(len(s[1])), repeat=2):
                if classes[x] == classes[y]:
                    self.assertEqual(form(s, x), form(s, y))

    def test_sixty_states(self):
        self.assertEqual(form(line(60), 59), (line(60), 59))
        self.assertEqual(form(line(60), 20), (line(21), 20))
        self.assertEqual(form(ring(60), 20), (ring(1), 0))
        falling = (some(SELF), tuple((x + 1,) if x < 59 else () for x in range(60)))
        self.assertEqual(form(falling, 0), (line(60), 59))

    def test_no_system_has_fewer_states(self):
        for shape, values in (
            (LAMP, ((0, 1), (0, 2), (1, 0))), (LAMP, ((1, 1), (1, 2), (0, 3), (0, 0))),
            (LAMP, ((0, 1), (1, 0), (1, 1))),
            (some(SELF), ((), (0,), (0, 1))), (some(SELF), ((2,), (0,), (0, 1, 2), ())),
            (after(2, either(SELF, letters(1))), (((0, 1), (1, 0)), ((0, 0), (0, 0)))),
        ):
            s = (shape, values)
            for state in range(len(values)):
                told, first = form(s, state)
                for fewer in range(len(told[1])):
                    for others in product(all_values(shape, fewer), repeat=fewer):
                        for other in range(fewer):
                            self.assertIs(same((shape, others), other, s, state), False)
                self.assertIs(same(told, first, s, state), True)

    def test_refused(self):
        for s, error in WRONG_SYSTEMS:
            self.assertIs(error_of(form, s, None), error)
            self.assertIs(error_of(form, s, 0), error)
        for x in WRONG + [2, 3, (0,), "0"]:
            self.assertIs(error_of(form, ring(2), x), BadState)
        self.assertIs(error_of(form, (SELF, ()), 0), BadState)


class Quotients(unittest.TestCase):

    def test_some_quotients(self):
        s = (LAMP, ((1, 1), (0, 2), (1, 3), (0, 0), (0, 4)))
        self.assertEqual(quotient(s), ((LAMP, ((1, 1), (0, 0), (0, 2))), (0, 1, 0, 1, 2)))
        self.assertEqual(quotient(ring(60)), (ring(1), (0,) * 60))
        self.assertEqual(quotient(line(60)), (line(60), tuple(range(60))))
        self.assertEqual(quotient((SELF, ())), ((SELF, ()), ()))
        bag = (many(SELF), (((1, 2), (2, 1)), (), (), ((1, 1),)))
        self.assertEqual(quotient(bag), ((many(SELF), (((1, 3),), (), ((1, 1),))), (0, 1, 1, 2)))

    def test_are_the_coarsest_classes(self):
        for s, _ in tried_systems(300):
            told, classes = quotient(s)
            self.assertEqual(classes, coarsest(s))
            self.assertIsNone(check_system(told))
            self.assertEqual(len(told[1]), len(set(classes)))
            self.assertEqual(coarsest(told), tuple(range(len(told[1]))))
            self.assertIs(is_map(s, told, list(classes)), True)

    def test_no_map_leads_to_fewer_states(self):
        for s in SYSTEMS:
            told = quotient(s)[0]
            for classes in all_classes(4):
                images = {k: plain_image(s[0], classes, value) for k, value in zip(classes, s[1])}
                t = (s[0], tuple(images[k] for k in range(len(images))))
                if is_map(s, t, list(classes)):
                    self.assertGreaterEqual(len(images), len(told[1]))

    def test_refused(self):
        for s, error in WRONG_SYSTEMS:
            self.assertIs(error_of(quotient, s), error)


class Same(unittest.TestCase):

    def test_exactly_if_they_behave_alike(self):
        for s, _ in tried_systems(200):
            t = (s[0], s[1][:1] * len(s[1]))
            for x, y in product(range(len(s[1])), repeat=2):
                self.assertIs(same(s, x, s, y), plain_distance(s, x, s, y) is None)
                self.assertIs(same(s, x, t, y), alike(s, x, t, y)[0] == "yes")

    def test_more_than_sixty_states_together(self):
        self.assertIs(same(ring(60), 3, ring(59), 7), True)
        self.assertIs(same(line(60), 31, line(60), 31), True)
        self.assertIs(same(line(60), 59, line(60), 58), False)
        falling = (some(SELF), tuple((x + 1,) if x < 59 else () for x in range(60)))
        for x in (0, 1, 30, 59):
            self.assertIs(same(line(60), x, falling, 59 - x), True)
            self.assertIs(same(line(60), x, falling, (60 - x) % 60), False)

    def test_refused_in_order(self):
        check_refusals_for_two(self, same)


if __name__ == "__main__":
    unittest.main()

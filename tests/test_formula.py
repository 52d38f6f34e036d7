"""Promises 3.2, 3.3 and 3.4: formulas, of which states they are true, their depth, and those that tell ranks."""

import unittest
from itertools import product
from random import Random

from manyshaped.alike import coarsest, ranks
from manyshaped.errors import BadFormula, BadShape, BadState, BadSystem
from manyshaped.formula import characteristic, check_formula, depth, true_of
from manyshaped.system import summed
from manyshaped.value import is_value
from plain import plain_ranks, plain_true, tried_systems, tried_value
from things import (
    SELF, SYSTEMS, WRONG, WRONG_SYSTEMS, after, both, chance, doubled, either, error_of, letters, line, many, nested,
    ring, some, wrapped,
)

TRUE = ("true",)
COLOURED = (both(letters(2), some(SELF)), ((0, (1, 2)), (1, ()), (0, (1,)), (1, (3,))))
# Rows of which each is a formula of the shape together with those above it; then of which states of COLOURED they
# are true, and their depths.
ROWS = [
    (TRUE, (0, 1, 2, 3), 0),
    (("see", (), (1, ())), (1,), 1),
    (("not", 1), (0, 2, 3), 1),
    (("see", (1,), (0, (1,))), (2,), 2),
    (("see", (1, 3), (0, (1, 2))), (0,), 3),
    (("see", (3, 1), (0, (1, 2))), (0,), 3),
    (("see", (1, 1), (0, (0, 3))), (0,), 2),
    (("see", (0, 1), (0, (1, 3))), (0,), 2),
    (("see", (0, 1), (0, (3,))), (2,), 2),
    (("see", (0, 1), (0, (0, 3))), (), 2),
    (("all", ()), (0, 1, 2, 3), 0),
    (("all", (1, 2)), (), 1),
    (("all", (2, 0, 2)), (0, 2, 3), 1),
    (("see", (11, 12), (1, (2,))), (3,), 2),
    (("not", 13), (0, 1, 2), 2),
    (("all", (14, 2)), (0, 2), 2),
    (("not", 11), (0, 1, 2, 3), 1),
    (("see", (1, 1, 1, 1, 1, 1, 1, 1), (0, (0, 255))), (0,), 2),
    (("see", (0, 1, 2, 3, 4, 5, 6, 7), (0, (13, 131))), (), 4),
    (("see", (0, 1, 2, 3, 4, 5, 6, 7), (0, (3, 13))), (0,), 4),
]
FORMULA = tuple(row for row, _, _ in ROWS)
# No formulas of the shape ("self",).
NO_FORMULAS = WRONG + [
    (), TRUE, ("not", 0), ((),), (("true", 0),), (("true", ()),), (("True",),), (("not",),), (("all",),), (("see",),),
    (("not", 0),), (("all", (0,)),), (("see", (0,), 0),), (TRUE, ("not", 1)), (TRUE, ("not", -1)), (TRUE, ("not", 2)),
    (TRUE, ("not", True)), (TRUE, ("not", False)), (TRUE, ("not", None)), (TRUE, ("not", "0")), (TRUE, ("not", (0,))),
    (TRUE, ("not", 0, 0)), (TRUE, ("all", 0)), (TRUE, ("all", None)), (TRUE, ("all", "")), (TRUE, ("all", (1,))),
    (TRUE, ("all", (0, -1))), (TRUE, ("all", (0, False))), (TRUE, ("all", (), ())), (TRUE, ("all", ((),))),
    (TRUE, ("see", 0, 0)), (TRUE, ("see", "", 0)), (TRUE, ("see", (1,), 0)), (TRUE, ("see", (0, 1), 0)),
    (TRUE, ("see", (-1,), 0)), (TRUE, ("see", (False,), 0)), (TRUE, ("see", (0,))), (TRUE, ("see", (0,), 0, 0)),
    (TRUE, ("see", (), 1)), (TRUE, ("see", (), -1)), (TRUE, ("see", (), False)), (TRUE, ("see", (), None)),
    (TRUE, ("see", (), "0")), (TRUE, ("see", (), (0,))), (TRUE, ("see", (0,), 2)), (TRUE, ("see", (0, 0), 4)),
    (TRUE, ("see", (0,) * 8, 256)), (TRUE, ("see", (0,) * 9, 0)), (TRUE, ("none", 0)), (TRUE, (0, 0)), (TRUE, ()),
    (TRUE, ("none", (0,), 0)), (TRUE, ("See", (0,), 0)), (TRUE, (None, (0,), 0)), (TRUE, ("true", (0,), 0)),
    (TRUE, ("none",)), (TRUE, ("none", (0,))),
    (TRUE, "true"), (TRUE, 0), (TRUE, None), (TRUE, True), (TRUE, nested(98)), (TRUE, doubled(98, "true")),
    (("not", 1), TRUE), (("all", (1,)), TRUE), doubled(98, TRUE), nested(98, TRUE), doubled(99, "true"),
    (TRUE, ("not", doubled(97, 0))), (TRUE, ("all", doubled(97, 0))), (TRUE, ("see", doubled(97, 0), 0)),
    (TRUE, ("see", (0,), doubled(97, 0))), (TRUE, (doubled(97, "not"), 0)), [TRUE], (["true"],), (TRUE, ("all", [0])),
    (TRUE, ("see", [0], 0)), (("see", (), 0), ("see", (0,), 1), ("see", (1,), 2)),
]
# No value of the shape over as many states as so many indexes tell.
UNFIT = [
    (letters(2), 0, 2), (letters(2), 8, 2), (letters(2), 0, ()), (both(SELF, SELF), 1, (0,)), (some(SELF), 1, (2,)),
    (both(SELF, SELF), 1, (0, 2)), (some(SELF), 1, (1, 0)), (some(SELF), 1, (1, 1)), (some(SELF), 1, 0),
    (either(SELF, letters(3)), 1, (0, 2)), (either(SELF, letters(3)), 1, (2, 0)), (after(2, SELF), 2, (0, 4)),
    (after(2, SELF), 2, (0, 0, 0)), (after(0, SELF), 2, 0), (many(SELF), 1, ((0, 0),)), (many(SELF), 1, ((0, 1001),)),
    (many(SELF), 1, ((2, 1),)), (chance(SELF), 1, ()), (chance(SELF), 1, ((0, 1, 2),)), (chance(SELF), 1, ((0, 2, 2),)),
    (chance(SELF), 1, ((2, 1, 1),)), (chance(SELF), 1, ((1, 1, 2), (0, 1, 2))), (some(SELF), 8, (255, 256)),
]


def tried_formula(source, shape, rows):
    """A formula whose values may well be seen."""
    told = [TRUE]
    for number in range(1, rows):
        below = tuple(source.randrange(number) for _ in range(source.randrange(4)))
        few = below[:1]
        told.append(source.choice([
            ("not", source.randrange(number)), ("all", below),
            ("see", below, tried_value(source, shape, 1 << len(below))),
            ("see", few, tried_value(source, shape, 1 << len(few))),
        ]))
    return tuple(told)


class Formulas(unittest.TestCase):

    def test_each_row(self):
        for number, (_, _, deep) in enumerate(ROWS):
            self.assertIsNone(check_formula(COLOURED[0], FORMULA[:number + 1]))
            self.assertEqual(depth(COLOURED[0], FORMULA[:number + 1]), deep)

    def test_what_is_none(self):
        for formula in NO_FORMULAS:
            for call in (check_formula, depth):
                self.assertIs(error_of(call, SELF, formula), BadFormula)
            self.assertIs(error_of(true_of, ring(2), 1, formula), BadFormula)

    def test_unfit_values(self):
        for shape, number, value in UNFIT:
            rows = (TRUE, ("see", (0,) * number, value))
            for call in (check_formula, depth):
                self.assertIs(error_of(call, shape, rows), BadFormula)
                self.assertIs(error_of(call, shape, rows + (TRUE,)), BadFormula)
        for value in WRONG:
            for shape in (SELF, letters(1), some(SELF), after(2, SELF), chance(SELF)):
                self.assertIs(error_of(check_formula, shape, (TRUE, ("see", (0,), value))), BadFormula)

    def test_as_many_states_as_indexes_tell(self):
        for number in range(9):
            last = 2 ** number - 1
            self.assertIsNone(check_formula(SELF, (TRUE, ("see", (0,) * number, last))))
            self.assertIs(error_of(check_formula, SELF, (TRUE, ("see", (0,) * number, last + 1))), BadFormula)
            self.assertIsNone(check_formula(some(SELF), (TRUE, ("see", (0,) * number, (last,)))))
            self.assertIs(error_of(check_formula, some(SELF), (TRUE, ("see", (0,) * number, (last + 1,)))), BadFormula)

    def test_eight_and_nine_indexes(self):
        self.assertIsNone(check_formula(letters(1), (TRUE, ("see", (0,) * 8, 0))))
        self.assertIs(error_of(check_formula, letters(1), (TRUE, ("see", (0,) * 9, 0))), BadFormula)
        self.assertIsNone(check_formula(letters(1), (TRUE, ("all", (0,) * 1000))))
        self.assertIs(error_of(check_formula, letters(1), (TRUE, ("see", (0,) * 1000, 0))), BadFormula)

    def test_numbers_in_a_value(self):
        for shape, value in (
            (some(SELF), tuple(range(201))), (some(SELF), tuple(range(256))),
            (many(SELF), tuple((x, 1) for x in range(101))), (chance(SELF), tuple((x, 1, 67) for x in range(67))),
            (some(either(SELF, SELF)), tuple((0, x) for x in range(101))),
            (both(some(SELF), letters(1)), (tuple(range(200)), 0)),
        ):
            self.assertTrue(is_value(shape, 256, value))
            self.assertIs(error_of(check_formula, shape, (TRUE, ("see", (0,) * 8, value))), BadFormula)
            self.assertIs(error_of(depth, shape, (TRUE, ("see", (0,) * 8, value))), BadFormula)
        for shape, value in (
            (some(SELF), tuple(range(200))), (many(SELF), tuple((x, 1) for x in range(100))),
            (both(chance(SELF), some(SELF)), (tuple((x, 1, 66) for x in range(66)), (0, 1))),
            (some(either(SELF, SELF)), tuple((0, x) for x in range(100))),
            (both(some(SELF), letters(1)), (tuple(range(199)), 0)),
        ):
            self.assertIsNone(check_formula(shape, (TRUE, ("see", (0,) * 8, value))))
            self.assertEqual(depth(shape, (TRUE, ("see", (0,) * 8, value))), 1)

    def test_number_of_rows(self):
        s = (letters(1), (0,))
        for formula in ((TRUE,) * 8000, (TRUE,) + tuple(("not", k) for k in range(7999))):
            self.assertIsNone(check_formula(letters(1), formula))
            self.assertEqual(depth(letters(1), formula), 0)
            self.assertIs(true_of(s, 0, formula), formula[-1] == TRUE)
            for call in (check_formula, depth):
                self.assertIs(error_of(call, letters(1), formula + (TRUE,)), BadFormula)
                self.assertIs(error_of(call, letters(1), ()), BadFormula)
            self.assertIs(error_of(true_of, s, 0, formula + (TRUE,)), BadFormula)
            self.assertIs(error_of(true_of, s, 0, ()), BadFormula)

    def test_refused_in_order(self):
        for shape in WRONG + [wrapped(6, SELF), both(), letters(6), after(5, SELF)]:
            for formula in ((TRUE,), (), None):
                self.assertIs(error_of(check_formula, shape, formula), BadShape)
                self.assertIs(error_of(depth, shape, formula), BadShape)
        for s, error in WRONG_SYSTEMS:
            self.assertIs(error_of(true_of, s, None, None), error)
            self.assertIs(error_of(true_of, s, 0, (TRUE,)), error)
        for x in WRONG + [2, 3, "0", (0,)]:
            self.assertIs(error_of(true_of, ring(2), x, None), BadState)
            self.assertIs(error_of(true_of, ring(2), x, (TRUE,)), BadState)
        self.assertIs(error_of(true_of, (SELF, ()), 0, (TRUE,)), BadState)
        self.assertIs(error_of(true_of, ring(61), 0, (TRUE,)), BadSystem)


class TrueOf(unittest.TestCase):

    def test_each_row(self):
        for number, (_, states, _) in enumerate(ROWS):
            for x in range(4):
                self.assertIs(true_of(COLOURED, x, FORMULA[:number + 1]), x in states)

    def test_bags_and_chances(self):
        bag = (many(SELF), (((0, 1), (1, 2), (2, 3)), (), ((1, 1),)))
        empty = (("see", (), ()),)
        for value, states in ((((0, 4), (1, 2)), (0,)), (((0, 1), (1, 5)), ()), (((1, 1),), (2,)), ((), (1,))):
            for x in range(3):
                self.assertIs(true_of(bag, x, empty + (("see", (0,), value),)), x in states)
        coin = (chance(both(letters(2), SELF)), (
            (((0, 0), 1, 6), ((0, 1), 1, 3), ((1, 2), 1, 2)), (((0, 0), 1, 2), ((0, 1), 1, 2)), (((1, 2), 1, 1),),
        ))
        last = (("see", (), (((1, 0), 1, 1),)),)
        for value, states in (
            ((((0, 0), 1, 2), ((1, 1), 1, 2)), (0,)), ((((0, 0), 1, 1),), (1,)), ((((1, 1), 1, 1),), (2,)),
            ((((0, 0), 1, 2), ((1, 0), 1, 2)), ()),
        ):
            for x in range(3):
                self.assertIs(true_of(coin, x, last + (("see", (0,), value),)), x in states)

    def test_row_by_row_and_state_by_state(self):
        source = Random(7)
        for s, _ in tried_systems(250):
            formula = tried_formula(source, s[0], 9)
            for number in range(1, 10):
                for x in range(len(s[1])):
                    self.assertIs(true_of(s, x, formula[:number]), plain_true(s, x, formula[:number]))

    def test_states_that_behave_alike(self):
        source = Random(8)
        for s, classes in tried_systems(200):
            for _ in range(4):
                formula = tried_formula(source, s[0], 12)
                told = [true_of(s, x, formula) for x in range(len(s[1]))]
                for x, y in product(range(len(s[1])), repeat=2):
                    if classes[x] == classes[y]:
                        self.assertIs(told[x], told[y])

    def test_long_denials(self):
        s = COLOURED
        rows = (("see", (), (1, ())),) + tuple(("not", k) for k in range(7999))
        for x in range(4):
            self.assertIs(true_of(s, x, rows), x != 1)
            self.assertIs(true_of(s, x, rows[:-1]), x == 1)
        self.assertEqual(depth(s[0], rows), 1)

    def test_long_rows_of_all(self):
        rows = [("see", (), (1, ()))]
        for k in range(7999):
            rows.append(("all", (k, k)) if k % 2 == 0 else ("all", (k, k - 1, k)))
        for x in range(4):
            self.assertIs(true_of(COLOURED, x, tuple(rows)), x == 1)
        self.assertEqual(depth(COLOURED[0], tuple(rows)), 1)

    def test_long_rows_of_sight(self):
        s = (either(letters(1), SELF), tuple((1, x - 1) if x > 0 else (0, 0) for x in range(60)))
        rows = (("see", (), (0, 0)),) + tuple(("see", (k, k), (1, 3)) for k in range(7999))
        self.assertIsNone(check_formula(s[0], rows))
        self.assertEqual(depth(s[0], rows), 8000)
        self.assertIs(true_of(s, 59, rows), False)
        for x in range(60):
            self.assertIs(true_of(s, 59, rows[:x + 1]), x == 59)
            self.assertIs(true_of(s, x, rows[:x + 1]), True)
        self.assertIs(true_of((s[0], ((1, 0),)), 0, rows), False)

    def test_sixty_states(self):
        s = (both(letters(2), SELF), tuple((x % 2, (x + 1) % 60) for x in range(60)))
        rows = (TRUE, ("see", (0,), (1, 1)), ("see", (1,), (0, 1)))
        for x in range(60):
            self.assertIs(true_of(s, x, rows[:2]), x % 2 == 1)
            self.assertIs(true_of(s, x, rows), x % 2 == 0)


class Characteristic(unittest.TestCase):

    def check_characteristic(self, s, x, rounds, expected, others=None):
        told = characteristic(s, x, rounds)
        self.assertIsNone(check_formula(s[0], told))
        self.assertLessEqual(depth(s[0], told), rounds)
        for y in range(len(s[1])) if others is None else sorted(others):
            self.assertIs(true_of(s, y, told), expected[x] == expected[y])

    def test_some_systems(self):
        for s, _ in tried_systems(200):
            for rounds in (0, 1, 2, 3, 4, 100):
                expected = plain_ranks(s, min(rounds, 6))
                for x in range(len(s[1])):
                    self.check_characteristic(s, x, rounds, expected)

    def test_is_true_by_plain_reading(self):
        for s in SYSTEMS:
            for rounds, x in product((0, 1, 2, 3), range(4)):
                told, expected = characteristic(s, x, rounds), plain_ranks(s, rounds)
                for y in range(4):
                    self.assertIs(plain_true(s, y, told), expected[x] == expected[y])

    def test_a_row_of_states(self):
        for length, some_rounds in ((40, (1, 17, 38, 39, 40, 100)), (60, (1, 17, 58, 59, 60, 100))):
            for rounds in some_rounds:
                expected = [min(x, rounds) for x in range(length)]
                for x in (0, 17, 18, length - 2, length - 1):
                    self.check_characteristic(line(length), x, rounds, expected, {0, 17, x - 1, x, length - 1} - {-1})
        self.check_characteristic(line(60), 31, 31, [min(x, 31) for x in range(60)])
        self.check_characteristic(line(60), 31, 100, list(range(60)))

    def test_many_ranks_in_many_rounds(self):
        shape = both(letters(5), SELF)
        for length, marks in ((60, (59,)), (60, (7, 31)), (59, (0, 1, 3)), (45, (44,))):
            values = tuple((x % 3 if x not in marks else 4, (x + 1) % length) for x in range(length))
            for rounds in (1, 2, 30, 100):
                expected = ranks((shape, values), rounds)
                for x in (33, length - 1):
                    self.check_characteristic((shape, values), x, rounds, expected, range(0, length, 4))

    def test_is_told_alike_in_a_sum(self):
        s, t = SYSTEMS[1], (SYSTEMS[1][0], ((1, 1), (0, 2), (0, 0)))
        whole = summed(s, t)
        classes = coarsest(whole)
        for x in range(7):
            told = characteristic(whole, x, 100)
            for y in range(7):
                told_of_it = true_of(s, y, told) if y < 4 else true_of(t, y - 4, told)
                self.assertIs(told_of_it, classes[x] == classes[y])

    def test_refused(self):
        for s, error in WRONG_SYSTEMS:
            self.assertIs(error_of(characteristic, s, None, 0), error)
            self.assertIs(error_of(characteristic, s, 0, 5), error)
        for x in WRONG + [2, 3, "0", (0,)]:
            self.assertIs(error_of(characteristic, ring(2), x, 0), BadState)
        self.assertIs(error_of(characteristic, (SELF, ()), 0, 0), BadState)


if __name__ == "__main__":
    unittest.main()

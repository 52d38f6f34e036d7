"""Promises 2.3, 3.1, 3.3 and 3.4: classes, rounds and ranks, and papers on two states."""

import unittest
from itertools import product

from manyshaped.alike import alike, are_classes, coarsest, ranks, takes
from manyshaped.errors import TooMuch
from manyshaped.formula import check_formula, depth
from manyshaped.system import reached, summed
from plain import all_classes, plain_are_classes, plain_distance, plain_ranks, plain_true, tried_systems
from things import (
    SELF, SYSTEMS, WRONG, WRONG_SYSTEMS, after, both, chance, check_refusals_for_two, doubled, either, error_of,
    letters, line, many, nested, ring, some,
)

EMPTY = (SELF, ())
# One state of each of these pairs behaves like the other; in the next list it does not.
PAIRS_ALIKE = [
    (ring(2), 0, ring(3), 2),
    ((letters(3), (0, 2)), 1, (letters(3), (1, 2)), 1),
    ((both(letters(2), SELF), ((0, 1), (1, 0))), 1, (both(letters(2), SELF), ((1, 1), (0, 2), (1, 1))), 2),
    ((either(letters(2), SELF), ((0, 1), (1, 0))), 0, (either(letters(2), SELF), ((0, 1),)), 0),
    ((after(2, SELF), ((0, 1), (1, 0))), 0, (after(2, SELF), ((0, 0),)), 0),
    ((after(0, SELF), ((), ())), 0, (after(0, SELF), ((),)), 0),
    ((some(SELF), ((1, 2), (), ())), 0, (some(SELF), ((1,), ())), 0),
    ((many(SELF), (((1, 2), (2, 1)), (), ())), 0, (many(SELF), (((1, 3),), ())), 0),
    (
        (chance(SELF), (((0, 1, 6), (1, 5, 6)), ((1, 1, 1),))), 0,
        (chance(SELF), (((0, 1, 1),),)), 0,
    ),
    (
        (chance(both(letters(2), SELF)), ((((0, 1), 1, 3), ((0, 2), 1, 6), ((1, 0), 1, 2)), (((1, 1), 1, 1),),
                                          (((1, 2), 1, 1),))), 0,
        (chance(both(letters(2), SELF)), ((((0, 1), 1, 2), ((1, 0), 1, 2)), (((1, 1), 1, 1),))), 0,
    ),
]
PAIRS_UNLIKE = [
    ((letters(3), (0, 2)), 1, (letters(3), (1, 2)), 0, 1),
    ((both(letters(2), SELF), ((0, 1), (1, 0))), 1, (both(letters(2), SELF), ((1, 1), (0, 1))), 0, 3),
    ((both(letters(2), SELF), ((0, 1), (0, 2), (1, 0))), 0, (both(letters(2), SELF), ((0, 1), (0, 0))), 0, 3),
    ((either(SELF, SELF), ((0, 1), (0, 2), (1, 0))), 0, (either(SELF, SELF), ((0, 1), (0, 0))), 1, 3),
    ((after(2, either(SELF, SELF)), (((0, 1), (0, 0)), ((1, 0), (0, 1)))), 0,
     (after(2, either(SELF, SELF)), (((0, 0), (0, 1)), ((1, 1), (0, 0)))), 0, 2),
    ((some(SELF), ((1, 2), (2,), ())), 0, (some(SELF), ((1,), ())), 0, 2),
    ((many(SELF), (((1, 2), (2, 1)), (), ())), 0, (many(SELF), (((1, 2),), ())), 0, 1),
    ((many(SELF), (((1, 2), (2, 1)), (), ((1, 1),))), 0, (many(SELF), (((1, 1), (2, 2)), (), ((1, 1),))), 0, 2),
    ((chance(either(SELF, letters(1))), ((((0, 0), 1, 2), ((1, 0), 1, 2)),)), 0,
     (chance(either(SELF, letters(1))), ((((0, 0), 1, 3), ((1, 0), 2, 3)),)), 0, 1),
    ((chance(both(letters(2), SELF)), ((((0, 1), 1, 3), ((0, 2), 2, 3)), (((0, 1), 1, 1),), (((1, 2), 1, 1),))), 0,
     (chance(both(letters(2), SELF)), ((((0, 1), 2, 3), ((0, 2), 1, 3)), (((0, 1), 1, 1),), (((1, 2), 1, 1),))), 0, 2),
]
NO_PAPERS = WRONG + [
    (), ("yes",), ("no",), ("yes", ()), ("no", ()), ("yes", 0), ("no", 0), ("yes", None), ("yes", "ab"), ("no", "a"),
    ("yes", (0,)), ("yes", (0, 0, 0)), ("no", (("true",),)), ("no", (("true", 0),)), ("maybe", (0, 0)), (True, (0, 0)),
    ("yes", (0, 0), 0), (("yes", (0, 0)),), ("yes", nested(98)), ("no", nested(98)), ("yes", doubled(98, 0)),
    ("no", doubled(98, ("true",))), (nested(99), (0, 0)), (doubled(98, "yes"), (0, 0)), "yes", "no", ("no",) * 40,
]


class Classes(unittest.TestCase):

    def test_some_systems(self):
        self.assertEqual(coarsest(ring(7)), (0,) * 7)
        self.assertEqual(coarsest(EMPTY), ())
        self.assertEqual(coarsest((letters(3), (2, 0, 2, 1, 0))), (0, 1, 0, 2, 1))
        self.assertEqual(coarsest(line(60)), tuple(range(60)))
        falling = (some(SELF), tuple((x + 1,) if x < 59 else () for x in range(60)))
        self.assertEqual(coarsest(falling), tuple(range(60)))
        colours = (both(letters(2), SELF), ((1, 1), (0, 2), (1, 3), (0, 0), (0, 4)))
        self.assertEqual(coarsest(colours), (0, 1, 0, 1, 2))

    def test_numbers_as_they_first_occur(self):
        for s, _ in tried_systems(300):
            told = coarsest(s)
            self.assertIsInstance(told, tuple)
            self.assertEqual(told, tuple(list(dict.fromkeys(told)).index(k) for k in told))

    def test_are_the_coarsest_of_all_classes(self):
        for s, _ in tried_systems(250):
            found = [classes for classes in all_classes(len(s[1])) if plain_are_classes(s, classes)]
            told = coarsest(s)
            self.assertIn(told, found)
            for x, y in product(range(len(s[1])), repeat=2):
                self.assertIs(told[x] == told[y], any(classes[x] == classes[y] for classes in found))

    def test_refused(self):
        for call in (coarsest, lambda s: are_classes(s, None), lambda s: ranks(s, 0), lambda s: ranks(s, 3)):
            for s, error in WRONG_SYSTEMS:
                self.assertIs(error_of(call, s), error)


class AreClasses(unittest.TestCase):

    def test_any_whole_numbers(self):
        s = (both(letters(2), SELF), ((1, 1), (0, 2), (1, 3), (0, 0), (0, 4)))
        for classes in ((0, 1, 0, 1, 2), (5, -7, 5, -7, 10 ** 50), (0, 1, 2, 3, 4), (4, 3, 2, 1, 0), (9, 8, 7, 6, 5)):
            self.assertIs(are_classes(s, classes), True)
        for classes in ((0, 0, 0, 0, 0), (0, 1, 0, 1, 1), (0, 1, 0, 2, 3), (0, 1, 2, 1, 3), (0, 1, 0, 1, 0)):
            self.assertIs(are_classes(s, classes), False)
        self.assertIs(are_classes(EMPTY, ()), True)
        self.assertIs(are_classes(ring(60), (3,) * 60), True)
        self.assertIs(are_classes(ring(6), (0, 1) * 3), True)
        self.assertIs(are_classes(ring(6), (0, 1, 1) * 2), False)

    def test_all_classes(self):
        for s, known in tried_systems(250):
            self.assertIs(are_classes(s, known), True)
            for classes in all_classes(len(s[1])):
                self.assertIs(are_classes(s, classes), plain_are_classes(s, classes))

    def test_no_classes_at_all(self):
        for x in WRONG + ["00", "\0\0", (), (0,), (0, 0, 0), [0, 0], ((0, 0),), ((0,), (0,)), ("0", "0"), ("", "")]:
            self.assertIs(are_classes(ring(2), x), False)
            self.assertIs(are_classes(EMPTY, x), x == ())
        for x in WRONG + ["0", (), (0,), [], ()]:
            if x not in (-1, 10 ** 40) or isinstance(x, bool):
                for classes in ((x, x), (x, 0), (0, x), (1, x)):
                    self.assertIs(are_classes(ring(2), classes), False)
        for classes in ((True, True), (False, False), (True, 1), (0, False), (None, None)):
            self.assertIs(are_classes(ring(2), classes), False)


class Ranks(unittest.TestCase):

    def test_some_systems(self):
        s = (both(SELF, letters(2)), ((1, 1), (2, 1), (3, 1), (4, 0), (0, 1)))
        self.assertEqual(ranks(s, 0), [0, 0, 0, 0, 0])
        self.assertEqual(ranks(s, 1), [1, 1, 1, 0, 1])
        self.assertEqual(ranks(s, 2), [2, 2, 1, 0, 2])
        self.assertEqual(ranks(s, 3), [3, 2, 1, 0, 3])
        self.assertEqual(ranks(s, 4), [3, 2, 1, 0, 4])
        self.assertEqual(ranks(s, 5), [3, 2, 1, 0, 4])
        self.assertEqual(ranks(s, 100), [3, 2, 1, 0, 4])
        self.assertEqual(ranks(EMPTY, 0), [])
        self.assertEqual(ranks(EMPTY, 100), [])

    def test_a_row(self):
        for rounds in list(range(62)) + [99, 100]:
            told = ranks(line(60), rounds)
            self.assertEqual(told, [min(x, rounds) for x in range(60)])

    def test_by_the_words_of_the_document(self):
        for s, _ in tried_systems(300):
            for rounds in (0, 1, 2, 3, 4, 5, 6, 7, 100):
                self.assertEqual(ranks(s, rounds), plain_ranks(s, min(rounds, 8)))

    def test_the_last_ranks_tell_which_behave_alike(self):
        for s, _ in tried_systems(100):
            told, classes = ranks(s, max(len(s[1]) - 1, 0)), coarsest(s)
            for x, y in product(range(len(s[1])), repeat=2):
                self.assertIs(told[x] == told[y], classes[x] == classes[y])

    def test_told_anew(self):
        s = line(3)
        for rounds in (0, 1, 2, 100):
            told = ranks(s, rounds)
            self.assertIsInstance(told, list)
            told.append(9)
            told[0] = 7
            self.assertEqual(ranks(s, rounds), [min(x, rounds) for x in range(3)])


class Papers(unittest.TestCase):

    def check_paper(self, s, x, t, y, distance):
        """Check the paper that is told, by itself and by what takes it."""
        paper = alike(s, x, t, y)
        self.assertIsInstance(paper, tuple)
        word, told = paper
        if distance is None:
            self.assertEqual(word, "yes")
            self.assertTrue(plain_are_classes(summed(s, t), told))
            self.assertEqual(told[x], told[len(s[1]) + y])
        else:
            self.assertEqual(word, "no")
            self.assertIsNone(check_formula(s[0], told))
            self.assertEqual(depth(s[0], told), distance)
            self.assertTrue(plain_true(s, x, told))
            self.assertFalse(plain_true(t, y, told))
        self.assertIs(takes(s, x, t, y, paper), True)
        self.assertIs(takes(s, x, t, y, ("no" if word == "yes" else "yes", told)), False)
        self.assertIs(takes(t, y, s, x, paper), word == "yes" and plain_takes_yes(t, y, s, x, told))

    def test_alike(self):
        for s, x, t, y in PAIRS_ALIKE:
            self.check_paper(s, x, t, y, None)
            self.check_paper(t, y, s, x, None)

    def test_unlike(self):
        for s, x, t, y, distance in PAIRS_UNLIKE:
            self.assertEqual(plain_distance(s, x, t, y), distance)
            self.check_paper(s, x, t, y, distance)
            self.check_paper(t, y, s, x, distance)

    def test_all_states_of_some_systems(self):
        for s, _ in tried_systems(100):
            for x, y in product(range(min(3, len(s[1]))), repeat=2):
                self.check_paper(s, x, s, y, plain_distance(s, x, s, y))

    def test_systems_of_one_shape(self):
        for s in SYSTEMS:
            for rest in (s[1][:1] * 4, s[1][::-1], s[1][2:] + s[1][:2]):
                t = (s[0], rest)
                for x, y in product(range(4), repeat=2):
                    self.check_paper(s, x, t, y, plain_distance(s, x, t, y))

    def test_no_number_of_states_is_too_small(self):
        self.check_paper((after(0, SELF), ((),)), 0, (after(0, SELF), ((),)), 0, None)
        self.check_paper((letters(2), (0,)), 0, (letters(2), (1,)), 0, 1)

    def test_a_row_of_sixty_states(self):
        for s, x, t, y in ((line(30), 29, line(30), 28), (line(59), 58, line(1), 0), (line(58), 57, line(2), 1)):
            word, told = alike(s, x, t, y)
            self.assertEqual((word, depth(s[0], told)), ("no", y + 1))
            self.assertIs(takes(s, x, t, y, (word, told)), True)
            self.assertIs(takes(t, y, s, x, alike(t, y, s, x)), True)
            self.assertEqual(alike(line(30), 20, line(30), 20)[0], "yes")

    def test_a_distance_as_great_as_may_be(self):
        falling = (both(letters(2), SELF), tuple((1 if x == 0 else 0, max(x - 1, 0)) for x in range(59)))
        still = (both(letters(2), SELF), ((0, 0),))
        word, told = alike(falling, 58, still, 0)
        self.assertEqual((word, depth(falling[0], told)), ("no", 59))
        self.assertLessEqual(len(told), 8000)
        self.assertIs(takes(falling, 58, still, 0, (word, told)), True)
        word, told = alike(still, 0, falling, 58)
        self.assertEqual((word, depth(falling[0], told)), ("no", 59))
        self.assertIs(takes(still, 0, falling, 58, (word, told)), True)

    def test_many_ranks_in_many_rounds(self):
        shape = both(letters(5), some(SELF))
        for few in (20, 30, 40):
            values = tuple((x % 5, (x - 1,) if x > few else ()) for x in range(60))
            s, t = (shape, values[:59]), (shape, ((3, (0,)),))
            word, told = alike(s, 58, t, 0)
            self.assertEqual(word, "no")
            self.assertEqual(depth(shape, told), plain_distance(s, 58, t, 0))
            self.assertIs(takes(s, 58, t, 0, (word, told)), True)

    def test_two_hundred_numbers_in_each_value(self):
        pairs = tuple((x, y) for x in range(0, 30, 3) for y in range(10))
        shape = both(letters(2), some(SELF), some(both(SELF, SELF)))
        s = (shape, tuple((0, (x - 1,) if x > 0 else (0,), pairs[:98] + ((29, x),)) for x in range(30)))
        self.assertEqual(coarsest(s), (0,) * 30)
        t = (shape, ((1, (0,), pairs[:99]),) + s[1][1:])
        self.assertEqual(coarsest(t), tuple(range(30)))
        word, told = alike(t, 29, t, 28)
        self.assertEqual((word, depth(shape, told)), ("no", plain_distance(t, 29, t, 28)))
        self.assertIs(takes(t, 29, t, 28, (word, told)), True)
        self.assertEqual(alike(t, 29, s, 29)[0], "no")
        self.assertEqual(alike(s, 29, s, 0)[0], "yes")

    def test_sixty_and_sixty_one_states(self):
        for few in (1, 29, 30, 59):
            self.assertEqual(alike(ring(few), 0, ring(60 - few), 0)[0], "yes")
            self.assertIs(takes(ring(few), 0, ring(60 - few), 0, ("yes", (7,) * 60)), True)
            self.assertIs(error_of(alike, ring(few), 0, ring(61 - few), 0), TooMuch)
            self.assertIs(error_of(takes, ring(few), 0, ring(61 - few), 0, ("yes", (7,) * 61)), TooMuch)
            self.assertIs(error_of(takes, ring(few), 0, ring(61 - few), 0, None), TooMuch)
        same = ring(31)
        self.assertIs(error_of(alike, same, 0, same, 0), TooMuch)
        self.assertIs(error_of(takes, same, 0, same, 0, ("yes", (0,) * 62)), TooMuch)
        self.assertIs(error_of(takes, same, 0, same, 0, ("yes", (0,) * 31)), TooMuch)

    def test_refused_in_order(self):
        for call in (alike, lambda *rest: takes(*rest, None)):
            check_refusals_for_two(self, call)
            self.assertIs(error_of(call, ring(60), 0, ring(60), 0), TooMuch)


def plain_takes_yes(s, x, t, y, classes):
    return plain_are_classes(summed(s, t), classes) and classes[x] == classes[len(s[1]) + y]


class Takes(unittest.TestCase):

    def test_no_papers_at_all(self):
        for paper in NO_PAPERS:
            self.assertIs(takes(ring(1), 0, ring(1), 0, paper), False)
            self.assertIs(takes((letters(2), (0,)), 0, (letters(2), (1,)), 0, paper), False)

    def test_lists_are_no_papers(self):
        self.assertIs(takes(ring(1), 0, ring(1), 0, ("yes", (4, 4))), True)
        for paper in (["yes", (4, 4)], ("yes", [4, 4]), ("yes", (True, True)), ("yes", (1, True)), ("Yes", (4, 4))):
            self.assertIs(takes(ring(1), 0, ring(1), 0, paper), False)

    def test_any_classes(self):
        s, t = ring(2), ring(4)
        for classes in all_classes(6):
            for x, y in product(range(2), range(4)):
                expected = plain_takes_yes(s, x, t, y, classes)
                self.assertIs(takes(s, x, t, y, ("yes", classes)), expected)
                self.assertIs(takes(s, x, t, y, ("yes", tuple(-k * 10 ** 30 for k in classes))), expected)

    def test_classes_spoilt_in_one_place(self):
        for s, x, t, y in PAIRS_ALIKE:
            classes = alike(s, x, t, y)[1]
            for place in range(len(classes)):
                for number in list(classes) + [-1, 99]:
                    spoilt = classes[:place] + (number,) + classes[place + 1:]
                    self.assertIs(takes(s, x, t, y, ("yes", spoilt)), plain_takes_yes(s, x, t, y, spoilt))
                for wrong in ("0", None, True, False, (), (0,), nested(50)):
                    spoilt = classes[:place] + (wrong,) + classes[place + 1:]
                    self.assertIs(takes(s, x, t, y, ("yes", spoilt)), False)
            self.assertIs(takes(s, x, t, y, ("yes", classes[1:])), False)
            self.assertIs(takes(s, x, t, y, ("yes", classes + (0,))), False)

    def test_classes_that_part_the_two(self):
        for s, x, t, y, _ in PAIRS_UNLIKE:
            self.assertIs(takes(s, x, t, y, ("yes", coarsest(summed(s, t)))), False)
            self.assertIs(takes(s, x, t, y, ("yes", (0,) * (len(s[1]) + len(t[1])))), False)

    def test_formulas_spoilt_in_one_place(self):
        for s, x, t, y, _ in PAIRS_UNLIKE:
            told = alike(s, x, t, y)[1]
            for place, row in enumerate(told):
                for wrong in (("true", 0), ("not", place), ("not", -1), ("all", (place,)), ("all", 0), ("see", ()), (),
                              ("see", (), "0"), ("see", (place,), row[-1]), row + (0,), row[:1] * 2, None, "true"):
                    spoilt = told[:place] + (wrong,) + told[place + 1:]
                    self.assertIs(takes(s, x, t, y, ("no", spoilt)), False)
                for other in (("true",), ("all", ()), ("not", max(place - 1, 0))):
                    spoilt = told[:place] + (other,) + told[place + 1:]
                    if other != ("not", 0) or place > 0:
                        expected = plain_true(s, x, spoilt) and not plain_true(t, y, spoilt)
                        self.assertIs(takes(s, x, t, y, ("no", spoilt)), expected)
            self.assertIs(takes(s, x, t, y, ("no", told + (("not", len(told) - 1),))), False)
            self.assertIs(takes(s, x, t, y, ("no", told[:-1])), False)
            self.assertIs(takes(t, y, s, x, ("no", told)), False)

    def test_other_words(self):
        s, t = (letters(2), (0,)), (letters(2), (1,))
        formula = (("see", (), 0),)
        self.assertIs(takes(s, 0, t, 0, ("no", formula)), True)
        self.assertIs(takes(s, 0, s, 0, ("yes", (3, 3))), True)
        for word in WRONG + ["maybe", "No", "YES", "no ", ("no",), ("yes",), 0, 1]:
            self.assertIs(takes(s, 0, t, 0, (word, formula)), False)
            self.assertIs(takes(s, 0, s, 0, (word, (3, 3))), False)

    def test_formulas_true_or_false_of_both(self):
        for s, x, t, y in PAIRS_ALIKE:
            for formula in ((("true",),), (("true",), ("not", 0)), (("all", ()), ("not", 0), ("not", 1))):
                self.assertIs(takes(s, x, t, y, ("no", formula)), False)

    def test_more_depth_than_needed(self):
        s, t = (both(letters(2), SELF), ((0, 1), (0, 1))), (both(letters(2), SELF), ((1, 1), (0, 1)))
        rows = (("true",), ("see", (0,), (0, 1)))
        deep = rows + (("see", (1,), (0, 1)), ("see", (2,), (0, 1)))
        deep = deep + (("all", (1, 2, 3)),)
        self.assertEqual(depth(s[0], rows), 1)
        self.assertEqual(depth(s[0], deep), 3)
        self.assertIs(takes(s, 0, t, 0, ("no", rows)), True)
        self.assertIs(takes(s, 0, t, 0, ("no", deep)), True)
        self.assertIs(takes(s, 0, t, 1, ("no", deep)), False)

    def test_formulas_of_many_rows(self):
        s, t = (letters(2), (0,)), (letters(2), (1,))
        rows = (("see", (), 0),) + tuple(("not", k) for k in range(7999))
        self.assertIs(takes(s, 0, t, 0, ("no", rows)), False)
        self.assertIs(takes(t, 0, s, 0, ("no", rows)), True)
        self.assertIs(takes(s, 0, t, 0, ("no", rows[:-1])), True)
        self.assertIs(takes(s, 0, t, 0, ("no", rows + (("not", 7999),))), False)
        self.assertIs(takes(s, 0, t, 0, ("no", rows + (("not", 7998),))), False)
        self.assertIs(takes(t, 0, s, 0, ("no", rows + (("all", (7999,)),))), False)

    def test_no_state_outside_of_the_two_is_asked(self):
        s = (some(SELF), ((1,), (), (0,)))
        t = (some(SELF), ((), (0,)))
        self.assertEqual(reached(s, 0), [0, 1])
        self.assertEqual(alike(s, 0, t, 1)[0], "yes")
        self.assertEqual(alike(s, 1, t, 0)[0], "yes")
        self.assertEqual(depth(s[0], alike(s, 2, t, 1)[1]), 2)


if __name__ == "__main__":
    unittest.main()

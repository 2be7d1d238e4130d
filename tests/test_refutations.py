"""Point [9]: rows and refutations."""

import copy
import unittest

from anyfont.refutations import is_refutation
from samples import FIXED, LARGE, ODD_VALUES, TINY

TOO_WIDE = ((0, -4, 2), 0, True)
SHOWN = (2, 0, 1, 0, 0, 0, 0, 0, 0)
NOTHING = ('i', ())


def changed(multipliers, place, value):
    return multipliers[:place] + (value,) + multipliers[place + 1:]


class ExamplesTest(unittest.TestCase):
    def test_examples(self):
        self.assertIs(is_refutation(TINY, [TOO_WIDE], SHOWN), True)
        self.assertIs(is_refutation(TINY, [((0, -4, 2), 0, False)], SHOWN), False)


class OrderTest(unittest.TestCase):
    """With one letter, two facts and two conditions the rows are 2, 2, 2 and 2."""

    def check(self, rows, right):
        knowledge, conditions = ('i', tuple(rows[:2])), list(rows[2:])
        for first in range(8):
            for second in range(8):
                multipliers = changed(changed((0,) * 8, first, 1), second, 1)
                found = is_refutation(knowledge, conditions, multipliers)
                self.assertIs(found, {first, second} == right, (rows, first, second))

    def test_facts_and_conditions(self):
        high, low, free = ((0, 1), 3, False), ((0, -1), -4, False), ((1, 1), 9, False)
        for first in range(4):
            for second in range(4):
                if first != second:
                    rows = [free] * 4
                    rows[first], rows[second] = high, low
                    self.check(rows, {first, second})

    def test_widths_of_at_least_0(self):
        free = ((1, 1), 9, False)
        for place in range(4):
            rows = [free] * 4
            rows[place] = ((1, 0), -1, False)
            self.check(rows, {place, 4})
            rows[place] = ((0, 1), -1, False)
            self.check(rows, {place, 5})

    def test_widths_of_at_most_20(self):
        free = ((1, 1), 9, False)
        for place in range(4):
            rows = [free] * 4
            rows[place] = ((-1, 0), -21, False)
            self.check(rows, {place, 6})
            rows[place] = ((0, -1), -21, False)
            self.check(rows, {place, 7})

    def test_without_facts_and_conditions(self):
        self.assertIs(is_refutation(NOTHING, [], (0, 0, 0, 0)), False)
        self.assertIs(is_refutation(NOTHING, [], (1, 0, 1, 0)), False)
        self.assertIs(is_refutation(NOTHING, [], (0, 5, 0, 5)), False)

    def test_forty_conditions(self):
        facts = (((0, 0, 1, 0, 0), 3, False),) * 8
        for place in range(40):
            conditions = [((1, 1, 1, 1, 1), 9, False)] * 40
            conditions[place] = ((0, 0, -1, 0, 0), -4, False)
            multipliers = changed(changed((0,) * 58, 7, 1), 8 + place, 1)
            self.assertIs(is_refutation(('abcd', facts), conditions, multipliers), True)
            self.assertIs(is_refutation(('abcd', facts), conditions[::-1], multipliers), False)


class MultipliersTest(unittest.TestCase):
    def test_below_0(self):
        # As a sum of all rows with these multipliers there is a contradiction, too.
        self.assertIs(is_refutation(NOTHING, [], (0, -1, 0, -1)), False)
        self.assertIs(is_refutation(('i', (((0, -1), 3, False),)), [], (-1, 0, 0, 0, -1)), False)
        for place in range(9):
            for value in (-1, -LARGE):
                self.assertIs(is_refutation(TINY, [TOO_WIDE], changed(SHOWN, place, value)), False)

    def test_bools_and_other_values(self):
        for place in range(9):
            for value in (True, False, None, '', '1', (), (1,), [], [0], {}, {0: 1}):
                found = is_refutation(TINY, [TOO_WIDE], changed(SHOWN, place, value))
                self.assertIs(found, False, (place, value))

    def test_too_few_and_too_many(self):
        for many in range(20):
            multipliers = (SHOWN + (0,) * 20)[:many]
            self.assertIs(is_refutation(TINY, [TOO_WIDE], multipliers), many == 9, many)
        self.assertIs(is_refutation(TINY, [], SHOWN), False)
        self.assertIs(is_refutation(TINY, [TOO_WIDE, TOO_WIDE], SHOWN), False)
        self.assertIs(is_refutation(FIXED, [TOO_WIDE], SHOWN), False)
        self.assertIs(is_refutation(TINY, [TOO_WIDE, TOO_WIDE], changed(SHOWN, 3, 0) + (0,)), True)

    def test_no_tuple(self):
        for value in (list(SHOWN), dict(enumerate(SHOWN)), '200100000', (SHOWN,), [SHOWN], (list(SHOWN),)):
            self.assertIs(is_refutation(TINY, [TOO_WIDE], value), False)

    def test_any_other_value(self):
        for value in ODD_VALUES + ((0,) * 9, (1,) * 9, (LARGE,) * 9):
            self.assertIs(is_refutation(TINY, [TOO_WIDE], value), False, value)

    def test_large_ones(self):
        for times in (2, 10 ** 20, 10 ** 58, 10 ** 59):
            multipliers = tuple(times * item for item in SHOWN)
            self.assertIs(is_refutation(TINY, [TOO_WIDE], multipliers), True)
            self.assertIs(is_refutation(TINY, [TOO_WIDE], changed(multipliers, 2, times - 1)), False)
            self.assertIs(is_refutation(TINY, [TOO_WIDE], changed(multipliers, 2, times + 1)), False)


class SumsTest(unittest.TestCase):
    def test_factors_of_one_sign(self):
        for sign in range(5):
            for part, right in ((0, True), (1, False), (-1, False), (99, False)):
                high = ((1, 2, 3, 4, 5), 10, False)
                low = [-1, -2, -3, -4, -5]
                low[sign] += part
                condition = (tuple(max(-99, min(99, item)) for item in low), -11, False)
                multipliers = (1, 1) + (0,) * 10
                self.assertIs(is_refutation(('abcd', (high,)), [condition], multipliers), right, (sign, part))

    def test_bounds_below_0_at_0_and_above(self):
        for bound, right in ((-9999, True), (-8, True), (-7, False), (-6, False), (0, False), (9999, False)):
            knowledge = ('i', (((2, 1), 7, False),))
            found = is_refutation(knowledge, [((-2, -1), bound, False)], (1, 1, 0, 0, 0, 0))
            self.assertIs(found, right, bound)

    def test_bounds_below_0_at_0_and_above_with_strict_rows(self):
        for bound, right in ((-9999, True), (-8, True), (-7, True), (-6, False), (0, False), (9999, False)):
            for first, second in ((True, True), (True, False), (False, True)):
                knowledge = ('i', (((2, 1), 7, first),))
                found = is_refutation(knowledge, [((-2, -1), bound, second)], (1, 1, 0, 0, 0, 0))
                self.assertIs(found, right, (bound, first, second))

    def test_bounds_are_multiplied(self):
        knowledge = ('i', (((0, 2), 7, False),))
        for bound, right in ((-11, True), (-10, False)):
            self.assertIs(is_refutation(knowledge, [((0, -3), bound, False)], (3, 2, 0, 0, 0, 0)), right)
        self.assertIs(is_refutation(knowledge, [((0, -3), -10, False)], (2, 3, 0, 0, 0, 0)), False)

    def test_a_strict_row_whose_multiplier_is_0(self):
        just, strict = ((0, 1), 5, False), ((0, 1), 5, True)
        low = ((0, -1), -5, False)
        self.assertIs(is_refutation(('i', (just, strict)), [low], (1, 0, 1, 0, 0, 0, 0)), False)
        self.assertIs(is_refutation(('i', (just, strict)), [low], (0, 1, 1, 0, 0, 0, 0)), True)
        self.assertIs(is_refutation(('i', (just, strict)), [low], (3, 1, 4, 0, 0, 0, 0)), True)
        self.assertIs(is_refutation(('i', (just,)), [low, strict], (1, 1, 0, 0, 0, 0, 0)), False)

    def test_the_rows_of_the_widths_are_not_strict(self):
        self.assertIs(is_refutation(NOTHING, [((0, 1), 0, False)], (1, 0, 1, 0, 0)), False)
        self.assertIs(is_refutation(NOTHING, [((0, 1), 0, True)], (1, 0, 1, 0, 0)), True)
        self.assertIs(is_refutation(NOTHING, [((-1, 0), -20, False)], (1, 0, 0, 1, 0)), False)
        self.assertIs(is_refutation(NOTHING, [((-1, 0), -20, True)], (1, 0, 0, 1, 0)), True)

    def test_all_multipliers_0(self):
        self.assertIs(is_refutation(TINY, [TOO_WIDE], (0,) * 9), False)
        self.assertIs(is_refutation(NOTHING, [((0, 0), -1, True)], (0,) * 5), False)

    def test_rows_without_factors(self):
        for bound, strict, right in ((-1, False, True), (0, True, True), (0, False, False), (1, True, False)):
            self.assertIs(is_refutation(('i', (((0, 0), bound, strict),)), [], (1, 0, 0, 0, 0)), right)
            self.assertIs(is_refutation(NOTHING, [((0, 0), bound, strict)], (1, 0, 0, 0, 0)), right)


class ArgumentsTest(unittest.TestCase):
    def test_arguments_are_not_modified(self):
        conditions = [TOO_WIDE, ((1, 2, 3), 4, False)]
        for value in ([1, [2]], {'a': [1]}, SHOWN + (0,), list(SHOWN)):
            before = copy.deepcopy((TINY, conditions, value))
            is_refutation(TINY, conditions, value)
            self.assertEqual((TINY, conditions, value), before)

    def test_conditions_are_not_kept(self):
        conditions = [TOO_WIDE]
        self.assertIs(is_refutation(TINY, conditions, SHOWN), True)
        conditions[0] = ((0, -4, 2), 0, False)
        self.assertIs(is_refutation(TINY, conditions, SHOWN), False)
        conditions[0] = TOO_WIDE
        self.assertIs(is_refutation(TINY, conditions, SHOWN), True)


if __name__ == '__main__':
    unittest.main()

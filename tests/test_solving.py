"""Points [2] to [6] and [9]: exactly one of a font and a refutation exists and is found."""

import copy
import itertools
import random
import unittest

from anyfont.knowledge import fits, holds, is_font
from anyfont.refutations import is_refutation
from anyfont.solving import find_font, find_refutation, has_font
from samples import FIXED, TINY
from slow import random_conditions, random_knowledge, slow_has_font

LETTERS = ('a', 'im', 'abc', 'abcd')


class SolvingCase(unittest.TestCase):
    def check(self, knowledge, conditions, right=None):
        """Check what is found, against whether there is a font if that is known; return the font."""
        font = find_font(knowledge, conditions)
        refutation = find_refutation(knowledge, conditions)
        case = (knowledge, conditions, font, refutation)
        self.assertNotEqual(font is None, refutation is None, case)
        if font is None:
            self.assertTrue(is_refutation(knowledge, conditions, refutation), case)
            self.assertTrue(all(type(multiplier) is int for multiplier in refutation), case)
        else:
            self.assertTrue(is_font(knowledge[0], font), case)
            self.assertTrue(fits(knowledge, font), case)
            self.assertTrue(all(holds(condition, font) for condition in conditions), case)
        if right is not None:
            self.assertEqual(font is not None, right, case)
        if not conditions:
            self.assertIs(has_font(knowledge), font is not None, case)
        return font


class ExamplesTest(SolvingCase):
    def test_examples(self):
        self.assertEqual(find_font(FIXED, []), (1, (1, 2, 3)))
        self.assertIsNone(find_font(FIXED, [((0, 0, 1), 2, False)]))
        self.assertIsNone(find_refutation(FIXED, []))
        self.assertIs(has_font(TINY), True)

    def test_the_example_of_a_refutation(self):
        self.check(TINY, [((0, -4, 2), 0, True)], False)
        self.check(TINY, [((0, -4, 2), 0, False)], True)


class EdgesTest(SolvingCase):
    def test_nothing_is_known(self):
        for letters in LETTERS:
            self.check((letters, ()), [], True)

    def test_widths_at_0_and_at_20(self):
        for letters in LETTERS:
            many = len(letters) + 1
            for sign in range(many):
                up = tuple(int(place == sign) for place in range(many))
                down = tuple(-factor for factor in up)
                for bound, strict, right in ((0, False, True), (0, True, False), (-1, False, False), (1, True, True)):
                    font = self.check((letters, ()), [(up, bound, strict)], right)
                    self.check((letters, ((up, bound, strict),)), [], right)
                    if (bound, strict) == (0, False):
                        self.assertEqual(font[1][sign], 0)
                for bound, strict, right in (
                    (-20, False, True), (-20, True, False), (-21, False, False), (-19, True, True)
                ):
                    font = self.check((letters, ()), [(down, bound, strict)], right)
                    self.check((letters, ((down, bound, strict),)), [], right)
                    if (bound, strict) == (-20, False):
                        self.assertEqual(font[1][sign], 20 * font[0])

    def test_all_widths_at_0_or_at_20(self):
        for letters in LETTERS:
            many = len(letters) + 1
            ones, less = (1,) * many, (-1,) * many
            self.assertEqual(self.check((letters, ()), [(ones, 0, False)], True), (1, (0,) * many))
            self.check((letters, ()), [(ones, 0, True)], False)
            self.assertEqual(self.check((letters, ()), [(less, -20 * many, False)], True), (1, (20,) * many))
            self.check((letters, ()), [(less, -20 * many, True)], False)
            self.check((letters, ()), [(less, 1 - 20 * many, True)], True)

    def test_bounds_that_are_just_met_and_just_not(self):
        for first, second in itertools.product((False, True), repeat=2):
            for bound, right in ((-8, False), (-7, not (first or second)), (-6, True)):
                high, low = ((1, 3), 7, first), ((-1, -3), bound, second)
                self.check(('a', (high, low)), [], right)
                self.check(('a', (high,)), [low], right)
                self.check(('a', ()), [high, low], right)

    def test_a_fact_is_stricter_than_a_condition(self):
        self.check(('a', (((0, 1), 5, True),)), [((0, -1), -5, False)], False)
        self.check(('a', (((0, 1), 5, False),)), [((0, -1), -5, True)], False)
        self.check(('a', (((0, 1), 5, False), ((0, 1), 5, True))), [((0, -1), -5, False)], False)
        self.check(('a', (((0, 1), 5, False), ((1, 1), 5, True))), [((0, -1), -5, False)], False)

    def test_rows_without_factors(self):
        for bound, strict, right in (
            (0, False, True), (0, True, False), (1, True, True), (-1, False, False), (-9999, True, False),
            (9999, False, True),
        ):
            row = ((0, 0, 0), bound, strict)
            self.check(('im', ()), [row], right)
            self.check(('im', (row,)), [], right)
            self.check(TINY, [((0, 0, 1), 8, True), row], right)
            self.check(FIXED, [row], right)

    def test_halves_and_thirds(self):
        self.assertEqual(self.check(('a', ()), [((2, 0), 1, False), ((-2, 0), -1, False), ((0, 3), 2, False),
                                                ((0, -3), -2, False)], True), (6, (3, 4)))
        self.check(('a', ()), [((0, 99), 9999, False)], True)
        self.check(('a', ()), [((0, 99), 50, False), ((0, -98), -50, False)], False)
        self.check(('a', ()), [((0, 98), 50, False), ((0, -99), -50, False)], True)
        self.check(('a', ()), [((0, 98), 50, True), ((0, -99), -50, True)], True)

    def test_largest_factors_and_bounds(self):
        for bound, right in ((9900, True), (-9900, True), (-9901, False), (-9999, False), (9999, True)):
            self.check(('abcd', ()), [((-99, -99, -99, -99, -99), bound, False)], right)
        self.check(('abcd', ()), [((-99, -99, -99, -99, -99), -9900, True)], False)
        self.check(('abcd', (((99, -99, 99, -99, 99), -3960, False),)), [((0, 0, 0, -1, 0), -20, False)], True)
        self.check(('abcd', (((99, -99, 99, -99, 99), -3960, False),)), [((0, 0, 0, 1, 0), 20, True)], False)

    def test_very_small_widths(self):
        chain = tuple(
            (tuple(99 * (place == sign + 1) - (place == sign) for place in range(5)), 0, True) for sign in range(4)
        )
        font = self.check(('abcd', chain), [((0, 0, 0, 0, -1), 0, True)], True)
        self.assertGreater(font[0], 20 * 99 ** 3)
        self.check(('abcd', chain), [((1, 0, 0, 0, -99), 0, False)], False)
        self.check(('abcd', chain + (((1, 0, 0, 0, -99), 0, True),)), [], False)

    def test_a_round_of_rows(self):
        for many in (2, 3, 4):
            letters = 'abcd'[:many]
            for strict in itertools.product((False, True), repeat=many):
                facts = []
                for sign in range(many):
                    factors = [0] * (many + 1)
                    factors[1 + sign], factors[1 + (sign + 1) % many] = 1, -1
                    facts.append((tuple(factors), 0, strict[sign]))
                self.check((letters, tuple(facts)), [], not any(strict))

    def test_all_rows_meet_in_one_point(self):
        widths = (1, 2, 3)
        rows = []
        for factors in itertools.product((-1, 0, 1), repeat=3):
            bound = sum(factor * width for factor, width in zip(factors, widths))
            rows.append((factors, bound, False))
        self.assertEqual(self.check(('im', ()), rows, True), (1, widths))
        for place in range(len(rows)):
            strict = list(rows)
            strict[place] = strict[place][:2] + (True,)
            self.check(('im', ()), strict, False)


class SizesTest(SolvingCase):
    def test_all_sizes(self):
        source = random.Random(1)
        for letters, facts, size in itertools.product(LETTERS, (0, 1, 4, 8), (0, 1, 2, 10, 40)):
            for _ in range(4):
                knowledge = random_knowledge(source, letters, facts)
                self.check(knowledge, random_conditions(source, len(letters) + 1, size))

    def test_one_condition_of_forty_decides(self):
        for place in range(40):
            conditions = [((0, 1, 1, 1, 1), 9, True)] * 40
            conditions[place] = ((0, -1, -1, -1, -1), -9, False)
            self.check(('abcd', ()), conditions, False)
            conditions[place] = ((0, -1, -1, -1, -1), -8, False)
            self.check(('abcd', ()), conditions, True)

    def test_one_fact_of_eight_decides(self):
        for place in range(8):
            facts = [((0, 1, 1), 9, False)] * 8
            facts[place] = ((0, 1, 1), 8, True)
            self.check(('im', tuple(facts)), [((0, -1, -1), -8, False)], False)
            self.check(('im', tuple(facts)), [((0, -1, -1), -7, True)], True)

    def test_against_corners_with_one_letter(self):
        source = random.Random(2)
        for _ in range(400):
            knowledge = random_knowledge(source, 'a', source.randint(0, 5))
            conditions = random_conditions(source, 2, source.randint(0, 5))
            self.check(knowledge, conditions, slow_has_font(knowledge, conditions))

    def test_against_corners_with_two_letters(self):
        source = random.Random(3)
        for _ in range(150):
            knowledge = random_knowledge(source, 'im', source.randint(0, 4))
            conditions = random_conditions(source, 3, source.randint(0, 3))
            self.check(knowledge, conditions, slow_has_font(knowledge, conditions))

    def test_against_corners_with_three_letters(self):
        source = random.Random(4)
        for _ in range(15):
            knowledge = random_knowledge(source, 'abc', 3)
            conditions = random_conditions(source, 4, 2)
            self.check(knowledge, conditions, slow_has_font(knowledge, conditions))

    def test_small_factors_and_bounds_against_corners(self):
        source = random.Random(5)
        for _ in range(400):
            rows = [
                (tuple(source.randint(-1, 1) for _ in range(3)), source.randint(-1, 1), source.random() < 0.4)
                for _ in range(5)
            ]
            knowledge = ('im', tuple(rows[:2]))
            self.check(knowledge, rows[2:], slow_has_font(knowledge, rows[2:]))


class ArgumentsTest(unittest.TestCase):
    def test_arguments_are_not_modified(self):
        for conditions in ([((0, 0, 1), 2, False)], [((0, 0, 1), 5, True), ((1, 0, 0), 4, False)]):
            before = copy.deepcopy((FIXED, TINY, conditions))
            for knowledge in (FIXED, TINY):
                find_font(knowledge, conditions)
                find_refutation(knowledge, conditions)
                has_font(knowledge)
            self.assertEqual((FIXED, TINY, conditions), before)

    def test_a_list_that_was_changed_between_two_calls(self):
        conditions = []
        self.assertEqual(find_font(FIXED, conditions), (1, (1, 2, 3)))
        conditions.append(((0, 0, 1), 2, False))
        self.assertIsNone(find_font(FIXED, conditions))
        self.assertTrue(is_refutation(FIXED, conditions, find_refutation(FIXED, conditions)))
        conditions[0] = ((0, 0, 1), 3, False)
        self.assertEqual(find_font(FIXED, conditions), (1, (1, 2, 3)))
        self.assertIsNone(find_refutation(FIXED, conditions))
        conditions.append(((0, 0, 0), 0, True))
        self.assertTrue(is_refutation(FIXED, conditions, find_refutation(FIXED, conditions)))
        del conditions[:]
        self.assertIsNone(find_refutation(FIXED, conditions))

    def test_equal_results_for_equal_arguments(self):
        source = random.Random(6)
        cases = []
        for _ in range(60):
            letters = source.choice(LETTERS)
            knowledge = random_knowledge(source, letters, source.randint(0, 8))
            cases.append((knowledge, random_conditions(source, len(letters) + 1, source.randint(0, 12))))
        first = [(find_font(*case), find_refutation(*case)) for case in cases]
        order = list(range(len(cases)))
        source.shuffle(order)
        for place in order:
            case = copy.deepcopy(cases[place])
            self.assertEqual((find_font(*case), find_refutation(*case)), first[place])

    def test_kinds(self):
        font = find_font(TINY, [((0, -1, 0), 0, True)])
        self.assertEqual((type(font), type(font[0]), type(font[1])), (tuple, int, tuple))
        self.assertTrue(all(type(part) is int for part in font[1]))
        self.assertIs(type(find_refutation(TINY, [((0, 0, 0), -1, False)])), tuple)
        self.assertIs(has_font(('a', (((0, 0), -1, False),))), False)


if __name__ == '__main__':
    unittest.main()

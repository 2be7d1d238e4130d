"""Points [4], [5], [6]: letters, fonts, conditions and knowledges."""

import copy
import itertools
import unittest
from fractions import Fraction

from anyfont.knowledge import fits, holds, is_condition, is_font, is_knowledge
from samples import FIXED, LARGE, ODD_VALUES, TINY

FREE = ((0, 0, 0), 0, False)


def knows(letters, *facts):
    return is_knowledge((letters, facts))


class LettersTest(unittest.TestCase):
    def test_one_to_four(self):
        for letters in ('a', 'im', 'abc', 'abcd', '!', '~', '!~', '!09~', 'AZaz', '"%', '\\{'):
            with self.subTest(letters=letters):
                self.assertIs(knows(letters), True)

    def test_too_few_or_too_many(self):
        self.assertIs(knows(''), False)
        self.assertIs(knows('abcde'), False)
        self.assertIs(knows('abcdefghijklm'), False)

    def test_each_sign_alone(self):
        for code in range(300):
            with self.subTest(code=code):
                self.assertIs(knows(chr(code)), 33 <= code <= 126)

    def test_signs_beyond_the_range_beside_letters(self):
        for letters in (' a', 'a\x7f', 'a\u00e9', 'a\U0001f600', '\x1fa', '\na', 'abc\x80', 'ab\ud800'):
            with self.subTest(letters=letters):
                self.assertIs(knows(letters), False)

    def test_equal_or_not_ascending(self):
        for letters in ('aa', 'aab', 'abb', 'abca', 'ba', 'mi', 'acb', 'abdc', 'aB', '~!'):
            with self.subTest(letters=letters):
                self.assertIs(knows(letters), False)

    def test_no_string(self):
        for letters in (None, 1, True, ('i', 'm'), ['i', 'm'], {'i': 'm'}, ('im',), b'im'):
            with self.subTest(letters=letters):
                self.assertIs(knows(letters), False)


class FontTest(unittest.TestCase):
    def test_example(self):
        found = [is_font('im', (1, (1, 2, 4))), is_font('im', (2, (2, 2, 4))), is_font('im', (1, (1, 2, 21)))]
        self.assertEqual(found, [True, False, False])

    def test_as_many_widths_as_signs(self):
        for letters in ('a', 'ab', 'abc', 'abcd'):
            for size in range(8):
                with self.subTest(letters=letters, size=size):
                    self.assertIs(is_font(letters, (1, (3,) * size)), size == len(letters) + 1)

    def test_widths_at_the_edges(self):
        for unit in (1, 2, 7, LARGE):
            top = 20 * unit
            for place in range(3):
                for value, right in ((0, True), (top, True), (top + 1, False), (-1, False), (-top, False)):
                    widths = [1, 1, 1]
                    widths[place] = value
                    with self.subTest(unit=unit, place=place, value=value):
                        self.assertIs(is_font('im', (unit, tuple(widths))), right)

    def test_units(self):
        for unit, right in ((1, True), (2, True), (0, False), (-1, False), (-LARGE, False), (LARGE, True)):
            with self.subTest(unit=unit):
                self.assertIs(is_font('im', (unit, (1, 1, 1))), right)
                self.assertIs(is_font('im', (unit, (0, 0, 0))), unit == 1)

    def test_forty_digits(self):
        self.assertIs(is_font('im', (LARGE, (LARGE - 1, 0, 20 * LARGE))), True)
        self.assertIs(is_font('im', (LARGE, (LARGE - 1, 0, 20 * LARGE + 1))), False)
        self.assertIs(is_font('im', (3 * LARGE, (0, 3 * (LARGE - 1), 3))), False)
        self.assertIs(is_font('im', (LARGE, (LARGE, LARGE, LARGE))), False)
        self.assertIs(is_font('im', (2 * LARGE, (LARGE, LARGE, LARGE))), False)
        self.assertIs(is_font('im', (10 ** 59, (1, 2 * 10 ** 59, 0))), True)

    def test_common_divisors(self):
        for font, right in (
            ((2, (2, 2, 4)), False), ((2, (1, 2, 4)), True), ((2, (2, 2, 5)), True), ((2, (0, 0, 0)), False),
            ((1, (0, 0, 0)), True), ((1, (2, 2, 4)), True), ((6, (3, 0, 9)), False), ((6, (2, 3, 0)), True),
            ((35, (14, 21, 7)), False), ((35, (14, 21, 10)), True),
        ):
            with self.subTest(font=font):
                self.assertIs(is_font('im', font), right)

    def test_bools_are_no_integers(self):
        for font in (
            (True, (1, 2, 4)), (False, (1, 2, 4)), (1, (True, 2, 4)), (1, (1, 2, True)), (1, (1, False, 4)),
        ):
            with self.subTest(font=font):
                self.assertIs(is_font('im', font), False)

    def test_lists_and_other_forms(self):
        for font in (
            [1, (1, 2, 4)], (1, [1, 2, 4]), [1, [1, 2, 4]], (1, 1, 2, 4), (1, (1, 2, 4), 0), (1,), ((1, 2, 4), 1),
            (1, ('1', '2', '4')), ('1', (1, 2, 4)), (None, (1, 2, 4)), (1, (1, None, 4)), (1, ((1,), 2, 4)),
            (1, None), (1, 'abc'), (1, {0: 1, 1: 2, 2: 4}), ([1], (1, 2, 4)), (1, (1, 2, [4])), {1: (1, 2, 4)},
        ):
            with self.subTest(font=font):
                self.assertIs(is_font('im', font), False)

    def test_any_other_value(self):
        for value in ODD_VALUES:
            for letters in ('a', 'im', 'abcd'):
                self.assertIs(is_font(letters, value), False, value)


class ConditionTest(unittest.TestCase):
    def test_factors_at_the_edges(self):
        for place in range(3):
            for factor, right in ((-99, True), (99, True), (-100, False), (100, False), (0, True), (LARGE, False)):
                factors = [0, 0, 0]
                factors[place] = factor
                with self.subTest(place=place, factor=factor):
                    self.assertIs(is_condition('im', (tuple(factors), 0, False)), right)

    def test_bounds_at_the_edges(self):
        for bound, right in (
            (-9999, True), (9999, True), (-10000, False), (10000, False), (0, True), (LARGE, False), (-LARGE, False),
        ):
            with self.subTest(bound=bound):
                self.assertIs(is_condition('im', ((1, 2, 3), bound, True)), right)

    def test_strict(self):
        for strict in (True, False, 0, 1, None, 'True', '', (), [], (True,), 2):
            with self.subTest(strict=strict):
                self.assertIs(is_condition('im', ((1, 2, 3), 4, strict)), isinstance(strict, bool))

    def test_number_of_factors(self):
        for letters in ('a', 'ab', 'abc', 'abcd'):
            for size in range(8):
                with self.subTest(letters=letters, size=size):
                    self.assertIs(is_condition(letters, ((1,) * size, 0, False)), size == len(letters) + 1)

    def test_bools_are_no_integers(self):
        for condition in (
            ((True, 0, 0), 0, False), ((0, 0, False), 0, False), ((0, 0, 0), True, False), ((0, 0, 0), False, True),
        ):
            with self.subTest(condition=condition):
                self.assertIs(is_condition('im', condition), False)

    def test_lists_and_other_forms(self):
        for condition in (
            [(0, 0, 0), 0, False], ([0, 0, 0], 0, False), ((0, 0, 0), [0], False), ((0, 0, 0), 0), ((0, 0, 0), 0, 0, 0),
            ((0, 0, 0), 0, False, False), ((0, 0, None), 0, False), ((0, 0, '0'), 0, False), ((0, 0, 0), '0', False),
            ((0, 0, 0), None, False), ('000', 0, False), (None, 0, False), ({0: 0, 1: 0, 2: 0}, 0, False),
            ((0, 0, (0,)), 0, False), (0, (0, 0, 0), False), ((0, 0, 0), (0,), False), (0, 0, False),
        ):
            with self.subTest(condition=condition):
                self.assertIs(is_condition('im', condition), False)

    def test_any_other_value(self):
        for value in ODD_VALUES:
            for letters in ('a', 'im', 'abcd'):
                self.assertIs(is_condition(letters, value), False, value)


class HoldsTest(unittest.TestCase):
    def test_at_the_bound(self):
        font = (1, (1, 2, 4))
        for bound, loose, strict in ((12, False, False), (13, True, False), (14, True, True)):
            with self.subTest(bound=bound):
                self.assertIs(holds(((-1, 1, 3), bound, False), font), loose)
                self.assertIs(holds(((-1, 1, 3), bound, True), font), strict)

    def test_below_zero(self):
        font = (2, (1, 2, 4))
        for bound, loose, strict in ((-5, False, False), (-4, True, False), (-3, True, True)):
            with self.subTest(bound=bound):
                self.assertIs(holds(((0, 0, -2), bound, False), font), loose)
                self.assertIs(holds(((0, 0, -2), bound, True), font), strict)

    def test_no_factor(self):
        font = (3, (1, 0, 60))
        self.assertIs(holds(((0, 0, 0), 0, False), font), True)
        self.assertIs(holds(((0, 0, 0), 0, True), font), False)
        self.assertIs(holds(((0, 0, 0), -1, False), font), False)
        self.assertIs(holds(((0, 0, 0), 1, True), font), True)

    def test_one_part_of_a_large_unit_beside_the_bound(self):
        for part, loose, strict in ((-1, True, True), (0, True, False), (1, False, False)):
            font = (LARGE, (1, 3 * LARGE + part, 0))
            with self.subTest(part=part):
                self.assertIs(holds(((0, 1, 0), 3, False), font), loose)
                self.assertIs(holds(((0, 1, 0), 3, True), font), strict)
                self.assertIs(holds(((0, -1, 0), -3, False), font), part >= 0)
                self.assertIs(holds(((0, -1, 0), -3, True), font), part > 0)

    def test_largest_factors_and_bounds(self):
        font = (LARGE, (20 * LARGE, 20 * LARGE, 20 * LARGE - 1))
        self.assertIs(holds(((99, 99, 99), 5940, True), font), True)
        self.assertIs(holds(((99, 99, 99), 5939, False), font), False)
        self.assertIs(holds(((99, 99, 99), 9999, True), font), True)
        self.assertIs(holds(((99, 99, 99), -9999, True), font), False)

    def test_against_fractions(self):
        for unit, widths, factors, bound in itertools.product(
            (1, 3), itertools.product((0, 1, 5), repeat=3), ((1, -2, 3), (-1, 0, 0), (0, 2, -1)), range(-3, 4)
        ):
            total = sum(factor * Fraction(width, unit) for factor, width in zip(factors, widths))
            self.assertIs(holds((factors, bound, False), (unit, widths)), total <= bound)
            self.assertIs(holds((factors, bound, True), (unit, widths)), total < bound)


class KnowledgeTest(unittest.TestCase):
    def test_examples(self):
        self.assertIs(is_knowledge(TINY), True)
        self.assertIs(is_knowledge(FIXED), True)

    def test_number_of_facts(self):
        for size in range(12):
            with self.subTest(size=size):
                self.assertIs(is_knowledge(('im', (FREE,) * size)), size <= 8)

    def test_facts_in_a_list(self):
        self.assertIs(is_knowledge(('im', [])), False)
        self.assertIs(is_knowledge(('im', [FREE])), False)
        self.assertIs(is_knowledge(['im', (FREE,)]), False)
        self.assertIs(is_knowledge(('im', {FREE: True})), False)

    def test_facts_for_other_letters(self):
        self.assertIs(knows('i', FREE), False)
        self.assertIs(knows('imn', FREE), False)
        self.assertIs(knows('im', FREE, ((0, 0), 0, False)), False)
        self.assertIs(knows('im', FREE, FREE, ((0, 0, 0, 0), 0, False)), False)

    def test_facts_that_are_none(self):
        for wrong in ODD_VALUES + (((100, 0, 0), 0, False), ((0, 0, 0), 10000, False), ((0, 0, 0), 0, 1)):
            for place in range(3):
                facts = [FREE, FREE, FREE]
                facts[place] = wrong
                self.assertIs(knows('im', *facts), False, wrong)

    def test_letters_that_are_none(self):
        for letters in ('', 'aa', 'ba', ' a', 'abcde', None, 2, ['im']):
            with self.subTest(letters=letters):
                self.assertIs(is_knowledge((letters, ())), False)
        self.assertIs(is_knowledge(('', (((0,), 0, False),))), False)

    def test_other_forms(self):
        for value in (('im',), ('im', (), ()), ((), 'im'), ('im', None), ('im', FREE), ('im', 'facts')):
            with self.subTest(value=value):
                self.assertIs(is_knowledge(value), False)

    def test_facts_that_contradict_are_a_knowledge(self):
        self.assertIs(knows('im', ((0, 0, 0), -1, False), ((0, 0, 0), 0, True)), True)

    def test_any_other_value(self):
        for value in ODD_VALUES:
            self.assertIs(is_knowledge(value), False, value)


class FitsTest(unittest.TestCase):
    def test_example(self):
        found = [fits(TINY, (1, (1, 2, 4))), fits(TINY, (1, (1, 2, 3))), fits(TINY, (2, (1, 2, 4)))]
        self.assertEqual(found, [True, False, False])

    def test_no_fact(self):
        self.assertIs(fits(('im', ()), (1, (0, 20, 7))), True)

    def test_one_that_just_does_not_hold(self):
        for place in range(8):
            facts = [((0, 1, 0), 5, False)] * 8
            facts[place] = ((0, 1, 0), 5, True)
            with self.subTest(place=place):
                self.assertIs(fits(('im', tuple(facts)), (1, (1, 5, 3))), False)
                self.assertIs(fits(('im', tuple(facts)), (LARGE, (1, 5 * LARGE - 1, 3))), True)
                self.assertIs(fits(('im', tuple(facts)), (LARGE, (1, 5 * LARGE + 1, 3))), False)

    def test_all_eight(self):
        facts = (((0, 1, 0), 5, False),) * 8
        self.assertIs(fits(('im', facts), (1, (1, 5, 3))), True)
        self.assertIs(fits(('im', facts), (1, (1, 6, 3))), False)

    def test_fixed_has_one_font(self):
        found = [widths for widths in itertools.product(range(5), repeat=3) if fits(FIXED, (1, widths))]
        self.assertEqual(found, [(1, 2, 3)])


class ArgumentsTest(unittest.TestCase):
    def test_arguments_are_not_modified(self):
        for value in ([1, [2, {'a': [3]}]], {'im': [()]}, (1, [1, 2, 4]), ('im', [[FREE]]), [TINY, [FIXED]]):
            before = copy.deepcopy(value)
            is_condition('im', value)
            is_font('im', value)
            is_knowledge(value)
            self.assertEqual(value, before)

    def test_results_do_not_depend_on_the_call(self):
        for _ in range(3):
            self.assertIs(is_font('im', (1, (1, 2, 4))), True)
            self.assertIs(is_font('i', (1, (1, 2, 4))), False)
            self.assertIs(is_knowledge(TINY), True)


if __name__ == '__main__':
    unittest.main()

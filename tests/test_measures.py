"""Points [3] and [12]: measures that are safe for so many lines, and the smallest ones."""

import copy
import random
import unittest
from fractions import Fraction
from math import gcd

from anyfont.measures import is_safe, safe_measure
from anyfont.numbers import line_numbers
from anyfont.solving import has_font
from samples import EMPTY, FIXED, NOTHING, TINY, known, random_text
from slow import random_knowledge, slow_has_font
from slowlines import DecidingCase, compositions, slow_layout, slow_rows


def around(measure):
    """Return fractions greater than 0 that are just below, at and just above a measure."""
    exact = Fraction(*measure)
    near = [exact * (1 + part) for part in (Fraction(-1, 10 ** 12), 0, Fraction(1, 10 ** 12))]
    return [fraction for fraction in near if fraction > 0] or [Fraction(1, 10 ** 12)]


def pair(fraction):
    fraction = Fraction(fraction)
    return fraction.numerator, fraction.denominator


class MeasuresCase(DecidingCase):
    def check_safe(self, knowledge, text, k, measure):
        """Check whether a measure, any fraction, is safe, by all layouts of more lines; return that."""
        right = all(
            self.decide(knowledge, slow_rows(knowledge[0], text, measure, layout)) is None
            for layout in compositions(len(text.split(' '))) if len(layout) > k
        )
        self.assertIs(is_safe(knowledge, text, k, pair(measure)), right, (knowledge, text, k, measure))
        return right

    def check(self, knowledge, text, k, right=None):
        """Check the smallest safe measure, which is safe, while those just below it are not."""
        found = safe_measure(knowledge, text, k)
        case = (knowledge, text, k, found)
        self.assertEqual([type(found), type(found[0]), type(found[1])], [tuple, int, int], case)
        self.assertEqual(gcd(*found), 1, case)
        self.assertGreaterEqual(found[0], 0, case)
        self.assertGreaterEqual(found[1], 1, case)
        if right is not None:
            self.assertEqual(found, right, case)
        for fraction in around(found):
            self.assertEqual(self.check_safe(knowledge, text, k, fraction), fraction >= Fraction(*found), case)


class SafeMeasureTest(MeasuresCase):
    def test_examples(self):
        self.check(FIXED, 'i i i', 1, (8, 1))
        self.check(FIXED, 'i i i', 2, (5, 1))
        self.check(FIXED, 'i i i', 3, (0, 1))
        self.check(TINY, 'im im', 1, (80, 1))

    def test_one_word(self):
        for knowledge in (NOTHING, TINY, FIXED):
            for k in (1, 2, 9):
                self.check(knowledge, 'mmmmmmmmm', k, (0, 1))

    def test_k_from_1_to_more_than_the_number_of_words(self):
        for k, right in (
            (1, 27), (2, 13), (3, 10), (4, 6), (5, 6), (6, 6), (7, 6), (8, 0), (9, 0), (99, 0), (10 ** 30, 0),
        ):
            self.check(known('im', 1, 2, 3), 'i m i m i m i m', k, (right, 1))

    def test_all_known_against_all_measures(self):
        for text in ('i m mm', 'iii i m mm i', 'm iiii mm im i mmm', 'im i i i i i i m'):
            words = len(text.split(' '))
            for k in range(1, words + 2):
                unsafe = [0] + [
                    measure for measure in range(1, 60)
                    if len(slow_layout('im', text, measure, (1, (1, 2, 3)))) > k
                ]
                # All widths are integers, so the measure behind the last unsafe one is the smallest safe one.
                self.check(known('im', 1, 2, 3), text, k, (unsafe[-1] + 1 if k < words and unsafe[-1] else 0, 1))

    def test_nothing_known(self):
        # At most k lines hold eight words if each but the last one holds at least as many as here.
        for k, words in ((1, 8), (2, 4), (3, 3), (4, 2), (5, 2), (6, 2), (7, 2)):
            self.check(('a', ()), 'a a a a a a a a', k, (20 * (2 * words - 1), 1))
        self.check(('a', ()), 'a a a a a a a a', 8, (0, 1))
        for k, right in ((1, 120), (2, 60), (3, 0)):
            self.check(NOTHING, 'i m mm', k, (right, 1))

    def test_a_font_alone_with_fractions(self):
        half = ('a', (((2, 0), 1, False), ((-2, 0), -1, False), ((0, 3), 4, False), ((0, -3), -4, False)))
        # The space is 1/2 wide, an a 4/3.
        self.check(half, 'a a', 1, (19, 6))
        self.check(half, 'a a a', 1, (5, 1))
        self.check(half, 'a a a', 2, (19, 6))
        self.check(half, 'aa a aaa', 1, (9, 1))
        self.check(half, 'aa a aaa', 2, (9, 2))

    def test_an_upper_bound_that_no_font_reaches(self):
        for strict in (False, True):
            knowledge = ('a', (((3, 0), 1, strict), ((0, 7), 5, strict)))
            self.check(knowledge, 'a a', 1, (37, 21))
            self.check(knowledge, 'a a a', 1, (59, 21))
            self.check(knowledge, 'a a a', 2, (37, 21))
            knowledge = ('im', (((1, 1, 1), 10, strict), ((0, 1, -1), 0, True)))
            # i and m and a space are less than, or at most, 10 wide.
            self.check(knowledge, 'i m', 1, (10, 1))
            self.check(knowledge, 'i m i', 2, (10, 1))
            self.check(knowledge, 'i i', 1, (10, 1))

    def test_widths_that_depend_on_each_other(self):
        # i and m have width 10 together.
        trade = ('im', (((1, 0, 0), 0, False), ((0, 1, 1), 10, False), ((0, -1, -1), -10, False)))
        self.check(trade, 'ii i m mm', 1, (30, 1))
        # Three lines need ii i and i m mm to be too wide: both are 18 wide where i is 6 wide.
        self.check(trade, 'ii i m mm', 2, (18, 1))
        self.check(trade, 'ii i m mm', 3, (10, 1))
        self.check(trade, 'ii i m mm', 4, (0, 1))

    def test_no_measure_is_unsafe(self):
        nothing_wide = ('im', (((1, 1, 1), 0, False),))
        for k in (1, 2, 3, 4):
            self.check(nothing_wide, 'i m im', k, (0, 1))
        # Only the space may be wide, so no more than two words are safe.
        spaces = ('im', (((0, 1, 1), 0, False),))
        self.check(spaces, 'i m im', 1, (40, 1))
        self.check(spaces, 'i m im', 2, (20, 1))
        self.check(spaces, 'i m im', 3, (0, 1))

    def test_a_knowledge_with_no_facts(self):
        for letters in ('a', 'ab', 'abc', 'abcd'):
            self.check((letters, ()), letters + ' ' + letters, 1, (20 * (2 * len(letters) + 1), 1))

    def test_long_words(self):
        text = ' '.join(['abcdabcda'] * 8)
        self.check(('abcd', ()), text, 1, (20 * 79, 1))
        self.check(('abcd', ()), text, 2, (20 * 39, 1))
        self.check(('abcd', ()), text, 7, (20 * 19, 1))
        self.check(('abcd', ()), text, 8, (0, 1))

    def test_arbitrary_knowledges(self):
        source = random.Random(1)
        cases = 0
        while cases < 120:
            letters = source.choice(('a', 'im', 'abc', 'abcd'))
            knowledge = random_knowledge(source, letters, source.randint(0, 8))
            if has_font(knowledge):
                text = random_text(source, letters, source.randint(1, 5), 6)
                self.check(knowledge, text, source.randint(1, 6))
                cases += 1


class IsSafeTest(MeasuresCase):
    def test_example(self):
        self.assertIs(is_safe(FIXED, 'i i i', 2, (5, 1)), True)
        self.assertIs(is_safe(FIXED, 'i i i', 2, (49, 10)), False)

    def test_fractions_around_the_smallest(self):
        half = ('a', (((2, 0), 1, False), ((-2, 0), -1, False), ((0, 3), 4, False), ((0, -3), -4, False)))
        for measure, right in (
            ((19, 6), True), ((3, 1), False), ((79, 25), False), ((317, 100), True), ((1, 10 ** 9), False),
            ((7, 1), True),
        ):
            self.assertIs(is_safe(half, 'a a', 1, measure), right)

    def test_strict_facts(self):
        for strict in (False, True):
            knowledge = ('a', (((1, 2), 7, strict),))
            self.assertIs(is_safe(knowledge, 'a a', 1, (7, 1)), True)
            self.assertIs(is_safe(knowledge, 'a a', 1, (69, 10)), False)
            self.assertIs(is_safe(knowledge, 'a a', 1, (10 ** 12 - 1, 10 ** 11)), True)
            self.assertIs(is_safe(knowledge, 'a a', 1, (7 * 10 ** 12 - 1, 10 ** 12)), False)
            self.assertIs(is_safe(knowledge, 'a a', 1, (7 * 10 ** 12 + 1, 10 ** 12)), True)
            # A font for which both are just 7 wide would make it unsafe below 7 alone.
            both = ('a', (((1, 2), 7, False), ((-1, -2), -7, strict)))
            self.assertIs(is_safe(both, 'a a', 1, (6, 1)), strict)

    def test_k_of_all_words_and_more(self):
        for k in (3, 4, 9, 10 ** 20):
            for measure in ((1, 10 ** 9), (1, 1), (999, 1)):
                self.assertIs(is_safe(NOTHING, 'i m im', k, measure), True)

    def test_without_a_fitting_font(self):
        for knowledge in EMPTY:
            for k in (1, 2, 3, 4):
                for measure in ((1, 100), (5, 1), (999, 1)):
                    self.assertIs(is_safe(knowledge, 'i m im', k, measure), True)

    def test_integers_against_the_numbers_of_lines(self):
        source = random.Random(2)
        for _ in range(60):
            letters = source.choice(('a', 'im', 'abc', 'abcd'))
            knowledge = random_knowledge(source, letters, source.randint(0, 5))
            text = random_text(source, letters, source.randint(1, 6), 5)
            measure = source.randint(1, 150)
            most = max(line_numbers(knowledge, text, measure), default=0)
            for k in range(1, 8):
                self.assertIs(is_safe(knowledge, text, k, (measure, 1)), most <= k, (knowledge, text, measure, k))

    def test_fractions_against_corners(self):
        source = random.Random(3)
        for _ in range(25):
            knowledge = random_knowledge(source, 'a', source.randint(0, 3))
            text = random_text(source, 'a', source.randint(1, 4), 4)
            measure = Fraction(source.randint(1, 200), source.randint(1, 9))
            for k in (1, 2, 3):
                right = not any(
                    slow_has_font(knowledge, slow_rows('a', text, measure, layout))
                    for layout in compositions(len(text.split(' '))) if len(layout) > k
                )
                self.assertIs(is_safe(knowledge, text, k, pair(measure)), right, (knowledge, text, k, measure))

    def test_fractions_against_all_layouts(self):
        source = random.Random(4)
        for _ in range(60):
            letters = source.choice(('a', 'im', 'abc'))
            knowledge = random_knowledge(source, letters, source.randint(0, 4))
            text = random_text(source, letters, source.randint(1, 5), 5)
            measure = Fraction(source.randint(1, 900), source.randint(1, 9))
            self.check_safe(knowledge, text, source.randint(1, 4), measure)


class ArgumentsTest(unittest.TestCase):
    def test_equal_results_whatever_was_called_before(self):
        cases = [(knowledge, 'im i mi', k) for knowledge in (NOTHING, TINY, FIXED) for k in (1, 2, 3)]
        before = copy.deepcopy(cases)
        first = [(safe_measure(*case), is_safe(*case, (61, 2))) for case in cases]
        for case, right in reversed(list(zip(cases, first))):
            self.assertEqual((safe_measure(*copy.deepcopy(case)), is_safe(*case, (61, 2))), right)
        self.assertEqual(cases, before)


if __name__ == '__main__':
    unittest.main()

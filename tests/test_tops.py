"""Point [19]: tops, covers, limit fonts and least measures."""

import copy
import random
import unittest
from fractions import Fraction
from math import gcd

from anyfont.fewest import fewest_lines
from anyfont.probing import find_agreeing
from anyfont.tops import find_cover, find_limit_font, is_cover, is_limit_font, least_measure, top_of
from agreeing import AgreeingCase, lines_of, orders, random_agreeing
from samples import EMPTY, FIXED, FOUR, LARGE, NOTHING, ODD_VALUES, PRINTS, SHOWN, TINY, TRADE, known, random_text
from slow import slow_highest
from slowchecks import document_rows, slow_is_agreeing, slow_is_limit_font, slow_is_refutation, variants
from slowlines import compositions, slow_width, wide_row

TEXT = 'ii i m mm'
CLAIMS = ((('claim', ((0, 1), 5, True)), 1), (('claim', ((0, 1), 5, False)), 2))
# An i is less than 7/3, so that no agreeing font has its top.
STRICT = ('i', (((1, 0), 0, False), ((0, 3), 7, True)))


def pair(fraction):
    return fraction.numerator, fraction.denominator


def rows_of_cover(knowledge, probes, seen, string, bound):
    return document_rows(knowledge, probes, seen) + [wide_row(knowledge[0], string, Fraction(*bound))]


class TopsCase(AgreeingCase):
    def check(self, knowledge, probes, seen, string, right=None):
        """Check the top of a string by a cover and a limit font; return it."""
        case = (knowledge, probes, seen, string)
        top, font = top_of(*case), find_limit_font(*case)
        self.assertTrue(slow_is_limit_font(knowledge, probes, seen, font), case)
        self.assertIs(is_limit_font(knowledge, probes, seen, font), True, case)
        self.assertEqual(top, pair(slow_width(knowledge[0], string, font)), case)
        self.assertEqual([type(top), type(top[0]), type(top[1])], [tuple, int, int], case)
        cover = self.check_cover(case, top, True)
        if right is not None:
            self.assertEqual(top, right, case)
        for distance in (Fraction(1, LARGE), Fraction(1, 7), Fraction(3), Fraction(10 ** 30)):
            self.check_cover(case, pair(Fraction(*top) + distance), True)
            if Fraction(*top) >= distance:
                self.check_cover(case, pair(Fraction(*top) - distance), False)
        for other in orders(seen):
            same = (knowledge, probes, other, string)
            self.assertEqual((top_of(*same), find_limit_font(*same), find_cover(*same, top)), (top, font, cover), case)
            self.assertIs(is_cover(*same, top, cover), True, case)
            self.assertIs(is_limit_font(knowledge, probes, other, font), True, case)
        return top

    def check_cover(self, case, bound, right):
        knowledge = case[0]
        rows = rows_of_cover(*case, bound)
        cover = find_cover(*case, bound)
        self.assertIs(cover is not None, right, (case, bound))
        self.assertIs(slow_is_refutation(knowledge, rows, cover), right, (case, bound))
        self.assertIs(is_cover(*case, bound, cover), right, (case, bound))
        return cover


class TopOfTest(TopsCase):
    def test_examples(self):
        self.check(TRADE, SHOWN, (), 'ii i', (30, 1))
        self.check(TRADE, SHOWN, ((0, (2,)),), 'ii i', (15, 1))
        self.check(FOUR, PRINTS, ((1, (1, 1)),), 'i', (20, 1))
        self.check(FOUR, PRINTS, ((2, (2,)),), 'i', (6, 1))
        self.assertEqual(find_limit_font(FOUR, PRINTS, ((2, (2,)),), 'i'), (1, (0, 6)))
        self.assertIsNone(find_cover(FOUR, PRINTS, (), 'i', (19, 1)))

    def test_the_empty_string(self):
        for case in ((TRADE, SHOWN, ()), (FIXED, (), ()), (STRICT, (), ()), (FOUR, PRINTS, ((1, (1, 1)),))):
            self.check(*case, '', (0, 1))

    def test_strings_that_begin_or_end_with_spaces(self):
        knowledge = known('im', 1, 2, 3)
        for string, right in ((' ', 1), ('   ', 3), (' i', 3), ('i ', 3), ('  m  ', 7), (' i  m ', 9), ('im', 5)):
            self.check(knowledge, (), (), string, (right, 1))
        self.check(NOTHING, (), (), '  i ', (80, 1))
        self.check(TINY, (), (), ' i', (30, 1))

    def test_sixty_signs(self):
        self.check(NOTHING, (), (), 'im ' * 20, (1200, 1))
        self.check(TINY, (), (), 'i' * 60, (600, 1))
        self.check(TRADE, SHOWN, ((0, (2,)),), 'i' * 30 + ' ' * 30, (150, 1))

    def test_fractions(self):
        self.check(('i', (((1, 0), 0, False), ((0, 3), 7, False))), (), (), 'i', (7, 3))
        self.check(('i', (((1, 0), 0, False), ((0, 3), 7, False))), (), (), 'iii', (7, 1))
        self.check(('i', (((2, 0), 1, False), ((0, 6), 7, False))), (), (), 'i i', (17, 6))
        self.check(('im', (((99, 98, 97), 9998, False), ((-1, -1, 1), 0, False))), (), (), 'im')

    def test_strict_facts_and_conditions(self):
        self.check(STRICT, (), (), 'i', (7, 3))
        self.check(STRICT, (), (), 'iii', (7, 1))
        self.assertFalse(slow_is_agreeing(STRICT, (), (), find_limit_font(STRICT, (), (), 'i')))
        self.check(FOUR, CLAIMS, ((0, True),), 'i', (5, 1))
        self.check(FOUR, CLAIMS, ((1, True),), 'i', (5, 1))
        self.check(FOUR, CLAIMS, ((1, False),), 'i', (20, 1))
        self.check(FOUR, CLAIMS, ((1, True), (0, False)), 'i', (5, 1))
        # A top that is reached though another fact is strict, and one that a strict fact from below keeps.
        self.check(('im', (((0, 1, 0), 5, True), ((0, 0, 1), 4, False))), (), (), 'm', (4, 1))
        self.check(('im', (((0, 1, 1), 10, False), ((0, -1, 0), -4, True))), (), (), 'm', (6, 1))

    def test_against_corners(self):
        source = random.Random(1)
        for _ in range(60):
            letters = source.choice(('a', 'a', 'im'))
            knowledge, probes, seen = random_agreeing(source, letters, 2)
            string = ''.join(source.choices(' ' + letters, k=source.randint(0, 9)))
            rows = tuple(self.rows_of_seen(knowledge, probes, seen))
            factors = tuple(string.count(sign) for sign in ' ' + letters)
            top = slow_highest((letters, knowledge[1] + rows), factors)
            self.check(knowledge, probes, seen, string, top[:2])

    def test_arbitrary_strings(self):
        source = random.Random(2)
        for _ in range(120):
            letters = source.choice(('a', 'im', 'abc', 'abcd'))
            string = ''.join(source.choices(' ' + letters, k=source.choice((0, 1, 2, 5, 60))))
            self.check(*random_agreeing(source, letters, 5), string)


class CoverTest(TopsCase):
    case = (TRADE, SHOWN, ((0, (2,)),), 'ii i')

    def agree(self, case, bound, values):
        """Check that values are covers just if the document says so; return how many are."""
        many = 0
        rows = rows_of_cover(*case, bound)
        for value in values:
            before = copy.deepcopy(value)
            right = slow_is_refutation(case[0], rows, value)
            self.assertIs(is_cover(*case, bound, value), right, (case, bound, value))
            self.assertEqual(value, before)
            many += right
        return many

    def test_bounds_at_below_and_above_the_top(self):
        for bound, right in (
            ((15, 1), True), ((16, 1), True), ((1499, 100), False), ((1501, 100), True), ((14, 1), False),
            ((0, 1), False), ((15 * LARGE - 1, LARGE), False), ((15 * LARGE + 1, LARGE), True),
            ((10 ** 59 + 1, 10 ** 59), False), ((10 ** 59 + 1, 10), True), ((1, 10 ** 59), False),
        ):
            self.assertEqual(gcd(*bound), 1)
            self.check_cover(self.case, bound, right)

    def test_a_bound_of_0(self):
        self.check_cover((TINY, (), (), ''), (0, 1), True)
        self.check_cover((TINY, (), (), 'i'), (0, 1), False)
        self.check_cover((TINY, (), (), ' '), (0, 1), False)
        self.check_cover((TRADE, SHOWN, (), '   '), (0, 1), True)
        self.check_cover((known('im', 0, 0, 5), (), (), 'i i'), (0, 1), True)

    def test_a_top_that_no_agreeing_font_has(self):
        self.check_cover((STRICT, (), (), 'i'), (7, 3), True)
        self.check_cover((STRICT, (), (), 'i'), (7 * 10 ** 40 - 1, 3 * 10 ** 40), False)
        self.check_cover((STRICT, (), (), 'i'), (2, 1), False)

    def test_without_an_agreeing_font(self):
        for bound in ((0, 1), (1, 3), (1000, 1)):
            for knowledge in EMPTY:
                self.check_cover((knowledge, (), (), 'im m'), bound, True)
            self.check_cover((FOUR, PRINTS, ((1, (1, 1)), (0, (2,))), 'i'), bound, True)

    def test_the_row_of_the_string(self):
        # The factors are -3 for i, the bound is -7: once this row and once the fact.
        self.assertIs(is_cover(STRICT, (), (), 'i', (7, 3), (0, 1, 1, 0, 0, 0, 0)), True)
        # With another fraction of the same string the row is another one.
        self.assertIs(is_cover(STRICT, (), (), 'i', (5, 2), (0, 2, 3, 0, 0, 0, 0)), True)
        self.assertIs(is_cover(STRICT, (), (), 'i', (5, 2), (0, 1, 1, 0, 0, 0, 0)), False)
        self.assertIs(is_cover(STRICT, (), (), 'iii', (7, 1), (0, 1, 1, 0, 0, 0, 0)), True)
        self.assertIs(is_cover(STRICT, (), (), 'iii', (8, 1), (0, 1, 1, 0, 0, 0, 0)), True)
        self.assertIs(is_cover(STRICT, (), (), 'iii', (6, 1), (0, 1, 1, 0, 0, 0, 0)), False)

    def test_the_row_is_strict_and_stands_behind_seen(self):
        # Where i is at most 4, with the answers of two probes.
        for seen in orders(((1, (2,)), (0, (1, 1)))):
            case = (FOUR, PRINTS, seen, 'ii')
            self.assertIs(is_cover(*case, (8, 1), (0, 0, 1, 1, 1, 0, 0, 0)), True)
            self.assertIs(is_cover(*case, (8, 1), (0, 1, 0, 1, 1, 0, 0, 0)), False)
            self.assertIs(is_cover(*case, (8, 1), (0, 0, 1, 1, 0, 0, 0, 0)), False)
            self.assertIs(is_cover(*case, (8, 1), (0, 0, 1, 1, 1, 0, 0, 0, 0)), False)
            self.assertIs(is_cover(*case, (8, 1), (0, 0, 1, 1, 0, 0, 0)), False)
            self.assertIs(is_cover(FOUR, PRINTS, seen, 'i i', (8, 1), (0, 0, 1, 1, 0, 0, 0, 0)), True)
            self.assertIs(is_cover(FOUR, PRINTS, seen, 'i i', (8, 1), (0, 1, 0, 1, 0, 0, 0, 0)), False)
            self.assertIs(is_cover(FOUR, PRINTS, seen, 'i i', (7, 1), (0, 0, 1, 1, 0, 0, 0, 0)), False)

    def test_small_changes(self):
        covers = 0
        for case, bound in (
            (self.case, (15, 1)), (self.case, (31, 2)), ((STRICT, (), (), 'i'), (7, 3)), ((TINY, (), (), ''), (0, 1)),
            ((FOUR, PRINTS, ((1, (2,)), (0, (1, 1))), 'i i'), (8, 1)), ((EMPTY[0], (), (), 'im'), (0, 1)),
        ):
            cover = find_cover(*case, bound)
            covers += self.agree(case, bound, [cover, *variants(cover)])
        self.assertGreater(covers, 6)

    def test_any_other_value(self):
        for case, bound in ((self.case, (15, 1)), (self.case, (14, 1)), ((TINY, (), (), ''), (0, 1))):
            self.agree(case, bound, ODD_VALUES)
            for many in range(15):
                self.agree(case, bound, [(1,) * many, (0,) * many, (LARGE,) * many, (True,) * many])


class LimitFontTest(TopsCase):
    def agree(self, case, values):
        """Check that values are limit fonts just if the document says so; return how many are."""
        many = 0
        for value in values:
            before = copy.deepcopy(value)
            right = slow_is_limit_font(*case, value)
            self.assertIs(is_limit_font(*case, value), right, (case, value))
            self.assertEqual(value, before)
            many += right
        return many

    def test_examples(self):
        self.assertIs(is_limit_font(FOUR, PRINTS, ((1, (1, 1)),), (1, (0, 4))), True)
        self.assertIs(is_limit_font(FOUR, PRINTS, ((1, (1, 1)),), (1, (0, 3))), False)

    def test_agreeing_fonts(self):
        source = random.Random(3)
        for _ in range(40):
            case = random_agreeing(source, source.choice(('a', 'im', 'abc')), 4)
            self.assertIs(is_limit_font(*case, find_agreeing(*case)), True)

    def test_fonts_that_do_not_agree_and_are_limit_fonts_all_the_same(self):
        self.assertIs(is_limit_font(STRICT, (), (), (3, (0, 7))), True)
        self.assertIs(is_limit_font(STRICT, (), (), (3, (0, 8))), False)
        self.assertIs(is_limit_font(STRICT, (), (), (30, (0, 71))), False)
        for seen, right in (
            (((0, True),), True), (((0, False),), True), (((1, True),), True), (((1, False),), True),
            (((0, False), (1, True)), True), (((0, True), (1, False)), True),
        ):
            for other in orders(seen):
                self.assertIs(is_limit_font(FOUR, CLAIMS, other, (1, (0, 5))), right)
                self.assertIs(is_limit_font(FOUR, CLAIMS, other, (2, (0, 9))), (0, False) not in seen and (
                    1, False) not in seen)
                self.assertIs(is_limit_font(FOUR, CLAIMS, other, (2, (0, 11))), (0, True) not in seen and (
                    1, True) not in seen)
        # No font agrees, and yet there is a limit font.
        self.assertIs(is_limit_font(EMPTY[1], (), (), (1, (0, 3, 0))), True)
        self.assertIs(is_limit_font(EMPTY[0], (), (), (1, (0, 3, 0))), False)

    def test_each_fact_and_each_condition_counts(self):
        for place in range(6):
            knowledge = ('im', FIXED[1][:place] + FIXED[1][place + 1:])
            self.agree((knowledge, (), ()), [
                (1, (first, second, third)) for first in range(3) for second in range(1, 4) for third in range(2, 5)
            ])
        seen = ((0, (1, 1)), (1, (2,)))
        self.assertEqual(self.agree((FOUR, PRINTS, seen), [(1, (0, width)) for width in range(21)]), 2)
        self.assertEqual(self.agree((TINY, (), ()), [(1, (0, 2, 4)), (1, (1, 2, 3)), (1, (1, 2, 4))]), 1)

    def test_small_changes(self):
        fonts = 0
        for case in ((FOUR, PRINTS, ((1, (1, 1)),)), (STRICT, (), ()), (TRADE, SHOWN, ((0, (2,)),)), (NOTHING, (), ())):
            for string in ('i', ' ', 'i i'):
                font = find_limit_font(*case, string)
                fonts += self.agree(case, [font, *variants(font)])
        self.assertGreater(fonts, 12)

    def test_fonts_that_are_none(self):
        for value in (
            (1, (0, 4, 0)), (1, (4,)), (2, (0, 8)), (1, (0, 21)), (1, (0, -4)), (0, (0, 4)), (-1, (0, -4)), [1, (0, 4)],
            (1, [0, 4]), (True, (0, 4)), (1, (False, 4)), (1, 0, 4), ((0, 4), 1), (1, (0, None)), (1, '04'), (1, None),
        ):
            self.assertIs(is_limit_font(FOUR, PRINTS, ((1, (1, 1)),), value), False, value)

    def test_any_other_value(self):
        for case in ((FOUR, PRINTS, ((1, (1, 1)),)), (FOUR, (), ()), (EMPTY[0], (), ()), (('i', ()), (), ())):
            self.assertEqual(self.agree(case, ODD_VALUES), 0)


class LeastMeasureTest(TopsCase):
    def right_measure(self, tops, text, n):
        """Return the least of what layouts of at most n lines need."""
        return pair(min(
            max([tops[line] for line in lines_of(text, layout) if ' ' in line], default=Fraction(0))
            for layout in compositions(text.count(' ') + 1) if len(layout) <= n
        ))

    def check_text(self, knowledge, probes, seen, text):
        """Check the least measures of a text for each n against all layouts; return them."""
        words = text.split(' ')
        strings = {
            ' '.join(words[first:behind]) for first in range(len(words)) for behind in range(first + 2, len(words) + 1)
        }
        tops = {string: Fraction(*self.check(knowledge, probes, seen, string)) for string in strings}
        found = []
        for n in range(1, len(words) + 3):
            least = least_measure(knowledge, probes, seen, text, n)
            self.assertEqual(least, self.right_measure(tops, text, n), (knowledge, probes, seen, text, n))
            self.assertEqual([type(least), type(least[0]), type(least[1])], [tuple, int, int])
            for other in orders(seen):
                self.assertEqual(least_measure(knowledge, probes, other, text, n), least)
            found.append(least)
        return found

    def test_examples(self):
        self.assertEqual(
            self.check_text(TRADE, SHOWN, (), TEXT), [(30, 1), (30, 1), (10, 1), (0, 1), (0, 1), (0, 1)],
        )

    def test_as_many_lines_as_words_and_more(self):
        for text in ('i', 'mmmmmmmmm', 'i m', 'im mi mmm i', 'i m i m i m'):
            many = text.count(' ') + 1
            for n in (many, many + 1, many + 10, 999):
                self.assertEqual(least_measure(TINY, (), (), text, n), (0, 1))

    def test_one_line(self):
        for text, right in (('i', (0, 1)), ('i m', (6, 1)), ('i m i m i m', (20, 1))):
            self.assertEqual(least_measure(FIXED, (), (), text, 1), right)

    def test_fixed_widths(self):
        knowledge = known('i', 0, 1)
        self.assertEqual(
            self.check_text(knowledge, (), (), 'i i i i i i'), [(many, 1) for many in (6, 3, 2, 2, 2, 0, 0, 0)],
        )
        self.assertEqual(self.check_text(FIXED, (), (), 'i m i')[:3], [(9, 1), (6, 1), (0, 1)])
        self.assertEqual(self.check_text(FIXED, (), (), 'm m i i')[:3], [(13, 1), (7, 1), (5, 1)])

    def test_tops_that_no_font_has_and_fractions(self):
        self.assertEqual(self.check_text(STRICT, (), (), 'i i i')[:3], [(7, 1), (14, 3), (0, 1)])
        self.assertEqual(
            self.check_text(FOUR, CLAIMS, ((1, True), (0, False)), 'i ii i')[:3], [(20, 1), (15, 1), (0, 1)],
        )

    def test_words_of_no_width(self):
        self.assertEqual(self.check_text(known('i', 0, 0), (), (), 'i i i'), [(0, 1)] * 5)

    def test_six_words(self):
        self.check_text(TRADE, SHOWN, ((0, (2,)),), 'ii i m mm im i')
        self.check_text(TINY, (), (), 'im i mmm i im m')

    def test_arbitrary_texts(self):
        source = random.Random(4)
        for _ in range(40):
            letters = source.choice(('a', 'im', 'abc', 'abcd'))
            text = random_text(source, letters, source.choice((1, 2, 3, 4, 4, 5)), 3)
            self.check_text(*random_agreeing(source, letters, 4), text)

    def test_the_least_measure_takes_at_most_so_many_lines(self):
        source = random.Random(5)
        for _ in range(60):
            letters = source.choice(('a', 'im', 'abc'))
            knowledge, probes, seen = random_agreeing(source, letters, 4)
            text = random_text(source, letters, source.randint(1, 4), 3)
            for n in range(1, 5):
                top, unit = least_measure(knowledge, probes, seen, text, n)
                above = -(-top // unit)
                if 1 <= above <= 999:
                    self.assertLessEqual(fewest_lines(knowledge, probes, seen, text, above), n)
                if 2 <= above <= 1000:
                    self.assertGreater(fewest_lines(knowledge, probes, seen, text, above - 1), n)


class ArgumentsTest(unittest.TestCase):
    def test_arguments_do_not_change_and_results_are_equal(self):
        cases = [
            (TRADE, SHOWN, ((0, (2,)),), 'ii i'), (TRADE, SHOWN, (), 'ii i'), (STRICT, (), (), 'i i'),
            (FOUR, PRINTS, ((1, (2,)), (0, (1, 1))), 'i i i'),
        ]
        before = copy.deepcopy(cases)

        def found(case):
            return (
                top_of(*case), find_limit_font(*case), [find_cover(*case, bound) for bound in ((0, 1), (99, 2))],
                [least_measure(*case, n) for n in range(1, 5)],
            )

        first = [found(case) for case in cases]
        for case, right in reversed(list(zip(cases, first))):
            self.assertEqual(found(copy.deepcopy(case)), right)
        self.assertEqual(cases, before)


if __name__ == '__main__':
    unittest.main()

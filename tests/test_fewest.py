"""Point [18]: standing layouts of at most n lines, bars, and the fewest lines."""

import copy
import random
import unittest

from anyfont.fewest import are_bars, fewest_lines, find_bars, find_standing
from anyfont.standing import find_misfit
from agreeing import AgreeingCase, orders, random_agreeing
from samples import EMPTY, FIXED, FOUR, NOTHING, ODD_VALUES, PRINTS, SHOWN, TINY, TRADE, known, random_text
from slowchecks import slow_are_bars, variants

TEXT = 'ii i m mm'
WIDE_I, WIDE_M, EVEN = (1, (0, 10, 0)), (1, (0, 0, 10)), (1, (0, 5, 5))
# An i has width 6, so that every two words are too wide.
SIXES = (known('i', 0, 6), (), (), 'i i i i i i', 11)
SIX = (1, (0, 6))


class FewestCase(AgreeingCase):
    def check(self, knowledge, probes, seen, text, measure, right=None):
        """Check what is found for each n against all layouts; return the fewest lines."""
        case = (knowledge, probes, seen, text, measure)
        standing = self.standing(*case)
        fewest = min(len(layout) for layout in standing)
        if right is not None:
            self.assertEqual(fewest, right, case)
        found = fewest_lines(*case)
        self.assertIs(type(found), int, case)
        self.assertEqual(found, fewest, case)
        for n in range(text.count(' ') + 4):
            self.check_number(case, n, standing)
        for other in orders(seen):
            self.assertEqual(fewest_lines(knowledge, probes, other, text, measure), fewest, case)
        return fewest

    def check_number(self, case, n, standing):
        knowledge, probes, seen, text, measure = case
        layout, bars = find_standing(*case, n), find_bars(*case, n)
        fewest = min(len(layout) for layout in standing)
        self.assertEqual([layout is not None, bars is None], [n >= fewest] * 2, (case, n))
        if bars is None:
            self.assertIs(type(layout), tuple, (case, n))
            self.assertIn(layout, standing, (case, n))
            self.assertLessEqual(len(layout), n, (case, n))
            self.assertIsNone(find_misfit(*case, layout), (case, n))
        else:
            self.assertEqual(len(bars), n, case)
            self.assertTrue(slow_are_bars(*case, bars), (case, bars))
            self.assertIs(are_bars(*case, bars), True, (case, bars))
        for other in orders(seen):
            same = (knowledge, probes, other, text, measure)
            self.assertEqual((find_standing(*same, n), find_bars(*same, n)), (layout, bars), (case, n))
            self.assertIs(are_bars(*same, bars), bars is not None, (case, n))


class FindingTest(FewestCase):
    def test_examples(self):
        self.check(TRADE, SHOWN, (), TEXT, 20, 3)
        self.check(TRADE, SHOWN, ((0, (2,)),), TEXT, 20, 2)
        self.check(TRADE, SHOWN, ((0, (1, 1)),), TEXT, 20, 2)
        self.assertIsNone(find_standing(TRADE, SHOWN, (), TEXT, 20, 2))
        self.assertEqual(find_standing(TRADE, SHOWN, (), TEXT, 20, 3), (1, 2, 1))
        self.assertIsNone(find_bars(FOUR, PRINTS, ((0, (2,)),), 'i i', 6, 1))

    def test_no_lines(self):
        for case in ((TRADE, SHOWN, (), TEXT, 20), (FIXED, (), (), 'i', 1), (EMPTY[0], (), (), 'i m', 1)):
            self.assertIsNone(find_standing(*case, 0))
            self.assertEqual(find_bars(*case, 0), ())

    def test_one_word(self):
        for knowledge in (TINY, FIXED, NOTHING, *EMPTY):
            for text, measure in (('i', 1), ('mmmmmmmmm', 1), ('im', 999)):
                self.check(knowledge, (), (), text, measure, 1)
                self.assertEqual(find_standing(knowledge, (), (), text, measure, 1), (1,))

    def test_as_many_lines_as_words_and_more(self):
        for n in (6, 7, 20, 999):
            self.assertEqual(find_standing(*SIXES, n), (1,) * 6)
            self.assertIsNone(find_bars(*SIXES, n))
        self.assertEqual(find_bars(*SIXES, 5), tuple((word, word + 1, SIX) for word in range(5)))

    def test_six_words(self):
        for measure, right in ((5, 6), (11, 6), (12, 3), (17, 3), (18, 2), (35, 2), (36, 1)):
            self.check(*SIXES[:4], measure, right)
        self.check(TRADE, SHOWN, (), 'ii i m mm im i', 20)
        self.check(TRADE, SHOWN, ((0, (2,)),), 'ii i m mm im i', 30)
        for words, measure, right in ((1, 1, 1), (2, 1, 2), (5, 1, 5), (6, 1, 6), (6, 159, 2), (6, 160, 1)):
            self.check(TINY, (), (), ' '.join('i' * words), measure, right)

    def test_no_layout_for_a_font_has_three_lines_and_yet_two_are_too_few(self):
        self.assertEqual(self.right_answers(TRADE, (), (), ('layout', TEXT, 20)), [(1, 3), (2, 2), (3, 1)])
        self.check(TRADE, (), (), TEXT, 20, 3)

    def test_words_of_two_widths(self):
        knowledge = known('im', 0, 3, 6)
        self.check(knowledge, (), (), 'i i i m', 8, 3)
        self.check(knowledge, (), (), 'i i i m', 9, 2)
        self.check(knowledge, (), (), 'i m i m i m', 12, 3)
        self.check(knowledge, (), (), 'm i i i m m', 9, 4)

    def test_a_measure_that_is_just_met(self):
        strict = ('i', (((1, 0), 0, False), ((0, 1), 5, True)))
        for knowledge in (strict, ('i', (((1, 0), 0, False), ((0, 1), 5, False)))):
            for measure, right in ((9, 4), (10, 2), (14, 2), (15, 2), (19, 2), (20, 1)):
                self.check(knowledge, (), (), 'i i i i', measure, right)

    def test_without_an_agreeing_font(self):
        for knowledge in EMPTY:
            self.check(knowledge, (), (), 'im mi mmm i', 1, 1)
            self.check(knowledge, SHOWN, ((0, (1, 1)),), 'im mi mmm i', 1, 1)
        self.check(FOUR, PRINTS, ((2, (1, 1)), (0, (2,))), 'iii iii', 1, 1)

    def test_arbitrary_texts(self):
        source = random.Random(1)
        for index in range(150):
            letters = source.choice(('a', 'im', 'abc', 'abcd'))
            case = self.random_case(source, letters, 2) if index % 4 == 0 else random_agreeing(source, letters, 4)
            text = random_text(source, letters, source.choice((1, 2, 3, 3, 4, 4, 5, 6)), 3)
            self.check(*case, text, source.randint(1, 10 * len(text)))

    def test_more_seen_never_takes_more_lines(self):
        source = random.Random(2)
        for _ in range(60):
            knowledge, probes, seen = random_agreeing(source, 'im', 3)
            text = random_text(source, 'im', 4, 3)
            measure = source.randint(1, 100)
            all_lines = [
                fewest_lines(knowledge, probes, seen[:many], text, measure) for many in range(len(seen) + 1)
            ]
            self.assertEqual(all_lines, sorted(all_lines, reverse=True))


class AreBarsTest(FewestCase):
    case = (TRADE, SHOWN, (), TEXT, 20)

    def agree(self, case, values):
        """Check that values are bars just if the document says so; return how many are."""
        many = 0
        for value in values:
            before = copy.deepcopy(value)
            right = slow_are_bars(*case, value)
            self.assertIs(are_bars(*case, value), right, (case, value))
            self.assertEqual(value, before)
            many += right
        return many

    def test_examples(self):
        self.assertIs(are_bars(*self.case, ((0, 1, WIDE_I), (1, 3, WIDE_M))), True)
        self.assertIs(are_bars(*self.case, ((0, 1, WIDE_M),)), False)

    def test_no_bars(self):
        for case in (self.case, SIXES, (FIXED, (), (), 'i', 1), (EMPTY[0], (), (), 'i', 1)):
            self.assertIs(are_bars(*case, ()), True)
            for value in ([], {}, None, '', 0, False, ((),)):
                self.assertIs(are_bars(*case, value), False)

    def test_bars_that_touch_overlap_or_leave_words_out(self):
        for pairs, right in (
            ([(0, 1), (1, 2), (2, 3), (3, 4), (4, 5)], True), ([(0, 1), (2, 3), (4, 5)], True), ([(0, 5)], True),
            ([(0, 2), (2, 5)], True), ([(0, 2), (3, 5)], True), ([(0, 2), (1, 3)], False), ([(0, 3), (2, 5)], False),
            ([(0, 5), (0, 5)], False), ([(0, 1), (0, 1)], False), ([(0, 5), (1, 2)], False), ([(1, 2), (0, 5)], False),
            ([(2, 3), (0, 1)], False), ([(1, 2), (0, 1)], False), ([(4, 5), (2, 3), (0, 1)], False), ([(3, 4)], True),
            ([(0, 1), (2, 4), (3, 5)], False), ([(0, 3), (0, 3)], False), ([(0, 1), (1, 3), (2, 3)], False),
            ([(0, 1), (1, 2), (1, 2)], False), ([(0, 2), (4, 5), (3, 4)], False), ([(0, 1), (0, 2)], False),
        ):
            self.assertIs(are_bars(*SIXES, tuple((first, last, SIX) for first, last in pairs)), right, pairs)

    def test_turned_round_and_indices_that_are_none(self):
        for first, last in (
            (1, 0), (5, 0), (0, 0), (3, 3), (5, 5), (0, 6), (5, 6), (6, 7), (-1, 1), (-1, 5), (-6, 5), (0, -1), (1, -1),
            (-2, -1), (False, 1), (0, True), (False, True), (True, 2), (None, 1), (0, None), ('0', 1), (0, '1'),
            ((0,), 1), (0, [1]), (10 ** 59, 1), (0, 10 ** 59), (-10 ** 59, 1), ({}, 1), (0, {}),
        ):
            self.assertIs(are_bars(*SIXES, ((first, last, SIX),)), False, (first, last))
            self.assertIs(are_bars(*SIXES, ((0, 1, SIX), (first, last, SIX))), False, (first, last))

    def test_all_pairs_of_words(self):
        # At a measure of 5 each word alone is too wide, and yet it is no bar.
        for measure in (11, 5, 1):
            for first in range(-8, 14):
                for last in range(-8, 14):
                    right = 0 <= first < last <= 5
                    found = are_bars(*SIXES[:4], measure, ((first, last, SIX),))
                    self.assertIs(found, right, (measure, first, last))

    def test_fonts(self):
        for font, right in (
            (WIDE_I, True), (EVEN, False), (WIDE_M, False), ((1, (0, 7, 3)), True), ((3, (0, 20, 10)), False),
            ((3, (0, 21, 9)), False), ((10, (0, 67, 33)), True), ((1, (1, 10, 0)), False), ((1, (0, 11, 0)), False),
            ((2, (0, 20, 0)), False), ((1, (0, 10)), False), ((1, (0, 10, 0, 0)), False), ([1, (0, 10, 0)], False),
            ((1, [0, 10, 0]), False), ((True, (0, 10, 0)), False), ((1, (False, 10, 0)), False), (None, False),
            ((1, (0, 21, -11)), False), ((0, (0, 10, 0)), False), ((-1, (0, -10, 0)), False), ((1,), False),
        ):
            self.assertIs(are_bars(*self.case, ((0, 1, font),)), right, font)
        # Fonts that fit and do not agree.
        for seen in orders(((0, (2,)),)):
            case = (TRADE, SHOWN, seen, TEXT, 20)
            self.assertIs(are_bars(*case, ((0, 1, WIDE_I),)), False)
            self.assertIs(are_bars(*case, ((1, 3, WIDE_M),)), True)
        case = (TRADE, SHOWN, ((0, (1, 1)),), TEXT, 20)
        self.assertIs(are_bars(*case, ((0, 1, WIDE_I),)), True)
        self.assertIs(are_bars(*case, ((1, 3, WIDE_M),)), False)

    def test_words_that_just_fit(self):
        for measure, right in ((29, True), (30, False), (31, False)):
            self.assertIs(are_bars(TRADE, SHOWN, (), TEXT, measure, ((0, 1, WIDE_I),)), right)
        for measure, right in ((2, True), (3, False)):
            self.assertIs(are_bars(NOTHING, (), (), 'i m', measure, ((0, 1, (3, (1, 4, 4))),)), right)
        # The widths add up to 10/3; the space between the words counts as well.
        for font, right in (((3, (1, 4, 4)), False), ((3, (2, 4, 4)), True), ((3, (1, 4, 5)), True)):
            self.assertIs(are_bars(NOTHING, (), (), 'i m', 3, ((0, 1, font),)), right)

    def test_just_the_words_from_first_to_last(self):
        knowledge, font = known('abc', 1, 2, 3, 4), (1, (1, 2, 3, 4))
        widths = [2, 3, 4, 2]
        for measure in range(1, 16):
            for first in range(4):
                for last in range(first + 1, 4):
                    right = sum(widths[first:last + 1]) + last - first > measure
                    self.assertIs(are_bars(knowledge, (), (), 'a b c a', measure, ((first, last, font),)), right)

    def test_one_wrong_bar_among_right_ones(self):
        right = tuple((word, word + 1, SIX) for word in range(5))
        self.assertIs(are_bars(*SIXES, right), True)
        for place in range(5):
            for bar in (None, (), (place, place + 1), (place, place + 1, (1, (0, 5))), [place, place + 1, SIX]):
                self.assertIs(are_bars(*SIXES, right[:place] + (bar,) + right[place + 1:]), False)
        self.assertIs(are_bars(*SIXES, list(right)), False)
        self.assertIs(are_bars(*SIXES, (right,)), False)
        self.assertIs(are_bars(*SIXES, right[0]), False)

    def test_too_narrow_an_earlier_or_later_bar(self):
        bars = ((0, 1, WIDE_I), (1, 3, WIDE_M))
        for value in (
            ((0, 1, EVEN), bars[1]), (bars[0], (1, 3, EVEN)), (bars[0], (1, 2, WIDE_M)), (bars[0], (2, 3, WIDE_I)),
            ((0, 1, WIDE_M), (1, 3, WIDE_M)), ((0, 1, WIDE_I), (1, 3, WIDE_I)), bars[::-1], bars + bars,
        ):
            self.assertIs(are_bars(*self.case, value), False, value)
        self.assertIs(are_bars(*self.case, (bars[0], (2, 3, WIDE_M))), True)

    def test_without_an_agreeing_font(self):
        for knowledge in EMPTY:
            for font in ((1, (0, 3, 3)), (1, (20, 20, 20)), (1, (0, 4, 0)), (2, (1, 1, 1))):
                self.assertIs(are_bars(knowledge, (), (), 'i m', 1, ((0, 1, font),)), False)
        self.assertIs(are_bars(FOUR, PRINTS, ((0, (2,)), (1, (1, 1))), 'i i', 1, ((0, 1, (1, (0, 3))),)), False)

    def test_small_changes(self):
        bars = 0
        for case, value in (
            (self.case, ((0, 1, WIDE_I), (1, 3, WIDE_M))), (SIXES, tuple((word, word + 1, SIX) for word in range(5))),
            ((FOUR, PRINTS, ((0, (1, 1)), (1, (2,))), 'i i i i', 7), ((0, 1, (1, (0, 4))), (2, 3, (2, (0, 7))))),
            ((TINY, (), (), 'im mi', 30), ((0, 1, (1, (1, 5, 10))),)), (self.case, find_bars(*self.case, 2)),
        ):
            bars += self.agree(case, [value, *variants(value)])
        self.assertGreater(bars, 20)

    def test_any_other_value(self):
        for case in (self.case, SIXES, (FIXED, (), (), 'i', 1), (EMPTY[2], (), (), 'i m', 1)):
            self.agree(case, ODD_VALUES + tuple((value,) for value in ODD_VALUES))
            self.agree(case, [((0, 1, value),) for value in ODD_VALUES])
            self.agree(case, [((0, value, WIDE_I),) for value in ODD_VALUES])
            self.agree(case, [((value, 1, WIDE_I),) for value in ODD_VALUES])


class ArgumentsTest(unittest.TestCase):
    def test_arguments_do_not_change_and_results_are_equal(self):
        cases = [(TRADE, SHOWN, (), TEXT, 20), (TRADE, SHOWN, ((0, (2,)),), TEXT, 20), SIXES, (TINY, (), (), 'i m', 9)]
        before = copy.deepcopy(cases)

        def found(case):
            return fewest_lines(*case), [(find_standing(*case, n), find_bars(*case, n)) for n in range(7)]

        first = [found(case) for case in cases]
        for case, right in reversed(list(zip(cases, first))):
            self.assertEqual(found(copy.deepcopy(case)), right)
        self.assertEqual(cases, before)


if __name__ == '__main__':
    unittest.main()

"""Points [3], [7], [8] and [11]: conditions of layouts, possible layouts, settled texts."""

import copy
import random
import unittest

from anyfont.knowledge import fits, holds
from anyfont.layouts import conditions_of, is_settled, layouts
from anyfont.solving import find_font
from anyfont.texts import lines
from samples import EMPTY, FIXED, NOTHING, TINY, known, random_text
from slow import random_knowledge, slow_has_font
from slowlines import DecidingCase, compositions, slow_layout, slow_rows

EIGHT = 'a b a b a b a b'


class ConditionsOfTest(unittest.TestCase):
    def test_example(self):
        self.assertEqual(
            conditions_of('im', 'im im i', 9, (1, 2)),
            [((-1, -2, -2), -9, True), ((1, 2, 1), 9, False)],
        )

    def test_one_line(self):
        self.assertEqual(conditions_of('im', 'im', 9, (1,)), [])
        self.assertEqual(conditions_of('im', 'im i', 9, (2,)), [((1, 2, 1), 9, False)])
        self.assertEqual(conditions_of('im', 'im i mmm', 999, (3,)), [((2, 2, 4), 999, False)])
        self.assertEqual(conditions_of('a', 'a a a a a a a a', 1, (8,)), [((7, 8), 1, False)])

    def test_one_word_on_each_line(self):
        self.assertEqual(conditions_of('im', 'im i', 9, (1, 1)), [((-1, -2, -1), -9, True)])
        self.assertEqual(
            conditions_of('im', 'i m mm iii', 5, (1, 1, 1, 1)),
            [((-1, -1, -1), -5, True), ((-1, 0, -3), -5, True), ((-1, -3, -2), -5, True)],
        )
        self.assertEqual(conditions_of('a', 'a a a a a a a a', 3, (1,) * 8), [((-1, -2), -3, True)] * 7)

    def test_lines_of_several_words(self):
        self.assertEqual(
            conditions_of('im', 'i m mm iii', 5, (2, 2)),
            [((1, 1, 1), 5, False), ((-2, -1, -3), -5, True), ((1, 3, 2), 5, False)],
        )
        self.assertEqual(
            conditions_of('im', 'i m mm iii', 5, (3, 1)),
            [((2, 1, 3), 5, False), ((-3, -4, -3), -5, True)],
        )
        self.assertEqual(
            conditions_of('im', 'i m mm iii', 5, (1, 2, 1)),
            [((-1, -1, -1), -5, True), ((1, 0, 3), 5, False), ((-2, -3, -3), -5, True)],
        )
        self.assertEqual(
            conditions_of('abcd', 'a b c d ab cd', 40, (3, 2, 1)),
            [
                ((2, 1, 1, 1, 0), 40, False), ((-3, -1, -1, -1, -1), -40, True),
                ((1, 1, 1, 0, 1), 40, False), ((-2, -1, -1, -1, -2), -40, True),
            ],
        )

    def test_the_last_line_has_no_next_word(self):
        for layout in compositions(6):
            found = conditions_of('a', 'a a a a a a', 9, layout)
            self.assertEqual(len(found), len(layout) - 1 + sum(many > 1 for many in layout), layout)
            self.assertEqual(sum(strict for _, _, strict in found), len(layout) - 1, layout)

    def test_they_hold_for_exactly_the_fonts_of_the_layout(self):
        source = random.Random(1)
        for _ in range(300):
            letters = source.choice(('a', 'im', 'abc', 'abcd'))
            text = random_text(source, letters, source.randint(1, 6), 4)
            measure = source.randint(1, 60)
            font = (source.randint(1, 3), tuple(source.randint(0, 30) for _ in range(len(letters) + 1)))
            right = slow_layout(letters, text, measure, font)
            for layout in compositions(len(text.split(' '))):
                found = all(holds(condition, font) for condition in conditions_of(letters, text, measure, layout))
                self.assertEqual(found, layout == right, (letters, text, measure, font, layout))

    def test_lists_are_new(self):
        found = conditions_of('im', 'im i', 9, (2,))
        found.clear()
        self.assertEqual(conditions_of('im', 'im i', 9, (2,)), [((1, 2, 1), 9, False)])


class LayoutsTest(DecidingCase):
    def check(self, knowledge, text, measure, right=None):
        """Check the layouts of a text, by a font for each and a refutation for each other one; return them."""
        case = (knowledge, text, measure)
        found = layouts(*case)
        self.assertEqual(found, self.right_layouts(*case), case)
        if right is not None:
            self.assertEqual(found, right, case)
        self.assertIs(type(found), list)
        self.assertTrue(all(type(layout) is tuple for layout in found), case)
        self.assertIs(is_settled(*case), len(found) <= 1, case)
        return found

    def test_examples(self):
        self.check(TINY, 'im im', 30, [(1, 1), (2,)])
        self.check(FIXED, 'i i i', 5, [(2, 1)])
        self.assertIs(is_settled(FIXED, 'i i i', 5), True)

    def test_a_fitting_font_for_each(self):
        for layout in layouts(TINY, 'im mi i mm', 24):
            font = find_font(TINY, conditions_of('im', 'im mi i mm', 24, layout))
            self.assertTrue(fits(TINY, font))
            self.assertEqual(
                tuple(line.count(' ') + 1 for line in lines('im', 'im mi i mm', 24, font)), layout
            )

    def test_one_word(self):
        for knowledge in (NOTHING, TINY, FIXED):
            self.check(knowledge, 'mmmmmmmmm', 1, [(1,)])
            self.check(knowledge, 'i', 999, [(1,)])

    def test_one_to_four_letters(self):
        source = random.Random(2)
        for letters in ('a', 'im', 'abc', 'abcd'):
            for facts in (0, 1, 3, 8):
                for words in (2, 3, 5):
                    knowledge = random_knowledge(source, letters, facts)
                    self.check(knowledge, random_text(source, letters, words, 5), source.randint(1, 100))

    def test_nothing_is_known(self):
        self.check(('a', ()), 'a a', 59, [(1, 1), (2,)])
        self.check(('a', ()), 'a a', 60, [(2,)])
        # All but the last line take equally many words.
        self.check(('a', ()), 'a a a a a a a a', 99, [(2,) * 4, (3, 3, 2), (4, 4), (5, 3), (6, 2), (7, 1), (8,)])
        self.check(('a', ()), 'a a a a a a a a', 100, [(3, 3, 2), (4, 4), (5, 3), (6, 2), (7, 1), (8,)])
        self.check(('a', ()), 'a a a a a a a a', 300, [(8,)])
        self.check(('a', ()), 'a a a a a a a a', 299, [(7, 1), (8,)])

    def test_eight_words_and_nothing_known(self):
        for measure in (1, 17, 60, 200):
            found = self.check(('ab', ()), EIGHT, measure)
            self.assertGreater(len(found), 1)
        self.assertGreater(len(self.check(('abcd', ()), 'abcd a bb ccc dddd ab cd b', 45)), 30)

    def test_eight_words_and_all_widths_known(self):
        for measure, right in (
            (1, (1,) * 8), (5, (1,) * 8), (6, (2,) * 4), (8, (2,) * 4), (9, (3, 2, 2, 1)), (12, (3, 3, 2)),
            (13, (4, 4)), (26, (7, 1)), (27, (8,)), (999, (8,)),
        ):
            self.assertEqual(slow_layout('ab', EIGHT, measure, (1, (1, 2, 3))), right)
            self.check(known('ab', 1, 2, 3), EIGHT, measure, [right])

    def test_a_font_alone(self):
        half = ('a', (((2, 0), 1, False), ((-2, 0), -1, False), ((0, 3), 4, False), ((0, -3), -4, False)))
        # The space is 1/2 wide, an a 4/3: two words take 19/6, three 5.
        self.check(half, 'a a a', 3, [(1, 1, 1)])
        self.check(half, 'a a a', 4, [(2, 1)])
        self.check(half, 'a a a', 5, [(3,)])

    def test_without_any_font(self):
        for knowledge in EMPTY:
            for text, measure in (('i', 1), ('i m', 9), ('im i mm i i m mi m', 30)):
                self.check(knowledge, text, measure, [])

    def test_a_line_that_just_fits_and_one_that_just_does_not(self):
        # Together i and the space are at most, or less than, 7 wide, and at least, or more than, 5.
        for high, low in ((False, False), (True, False), (False, True), (True, True)):
            knowledge = ('i', (((1, 2), 7, high), ((-1, -2), -5, low)))
            self.check(knowledge, 'i i', 8, [(2,)])
            self.check(knowledge, 'i i', 7, [(2,)])
            self.check(knowledge, 'i i', 6, [(1, 1), (2,)])
            self.check(knowledge, 'i i', 5, [(1, 1)] if low else [(1, 1), (2,)])
            self.check(knowledge, 'i i', 4, [(1, 1)])

    def test_strict_facts(self):
        # Where two i do not stand on a line, i and m do not either, as an m is wider.
        wider = ('im', (((0, 1, -1), 0, True), ((-1, 0, 0), 0, True)))
        self.check(wider, 'i i m m', 20, [(1, 1, 1, 1), (2, 1, 1), (2, 2), (3, 1), (4,)])
        self.assertIn((1, 2, 1), layouts(NOTHING, 'i i m m', 20))
        # Two i and a space are 20 wide at least, so two lines need an m that is not wider than an i.
        for strict, right in ((False, [(1, 1, 1, 1), (2, 1, 1), (2, 2)]), (True, [(1, 1, 1, 1), (2, 1, 1)])):
            known_of_both = ('im', (((0, 1, -1), 0, strict), ((-1, -2, 0), -20, False)))
            self.check(known_of_both, 'i i m m', 20, right)

    def test_widths_of_0(self):
        self.check(('im', (((1, 1, 1), 0, False),)), 'im i m im', 1, [(4,)])
        self.check(('im', (((0, 1, 1), 0, False),)), 'i m i', 20, [(2, 1), (3,)])

    def test_against_corners(self):
        source = random.Random(3)
        for _ in range(40):
            letters = source.choice(('a', 'im'))
            knowledge = random_knowledge(source, letters, source.randint(0, 3))
            text = random_text(source, letters, source.randint(1, 3), 4)
            measure = source.randint(1, 60)
            right = [
                layout for layout in compositions(len(text.split(' ')))
                if slow_has_font(knowledge, slow_rows(letters, text, measure, layout))
            ]
            self.assertEqual(layouts(knowledge, text, measure), right, (knowledge, text, measure))

    def test_arbitrary_texts(self):
        source = random.Random(4)
        for _ in range(60):
            letters = source.choice(('a', 'im', 'abc', 'abcd'))
            knowledge = random_knowledge(source, letters, source.randint(0, 4))
            self.check(knowledge, random_text(source, letters, source.randint(1, 6), 9), source.randint(1, 300))


class IsSettledTest(unittest.TestCase):
    def test_no_layout(self):
        for knowledge in EMPTY:
            self.assertIs(is_settled(knowledge, 'i m', 20), True)

    def test_one_layout(self):
        self.assertIs(is_settled(NOTHING, 'im', 20), True)
        self.assertIs(is_settled(NOTHING, 'i m', 60), True)
        self.assertIs(is_settled(TINY, 'i i', 40), True)
        self.assertIs(is_settled(FIXED, 'i i m im m i im', 7), True)

    def test_several_layouts(self):
        self.assertIs(is_settled(NOTHING, 'i m', 59), False)
        self.assertIs(is_settled(TINY, 'i i', 39), False)
        # Only the last word is in doubt.
        loose = ('im', FIXED[1][:4] + (((0, 0, 1), 3, False),))
        self.assertIs(is_settled(loose, 'i i m', 8), False)
        self.assertIs(is_settled(loose, 'i i m', 9), True)
        self.assertIs(is_settled(loose, 'i i i m', 8), True)
        # The font that is found may have the only layout of several lines, or that of one.
        for strict in (False, True):
            self.assertIs(is_settled(('i', (((1, 2), 9, strict),)), 'i i', 8), False)
            self.assertIs(is_settled(('i', (((-1, -2), -8, strict),)), 'i i', 8), strict)


class ArgumentsTest(unittest.TestCase):
    def test_lists_are_new(self):
        found = layouts(TINY, 'im im', 30)
        found.append((7,))
        self.assertEqual(layouts(TINY, 'im im', 30), [(1, 1), (2,)])

    def test_equal_results_whatever_was_called_before(self):
        source = random.Random(5)
        cases = []
        for _ in range(30):
            knowledge = random_knowledge(source, 'im', source.randint(0, 4))
            cases.append((knowledge, random_text(source, 'im', 4, 3), source.randint(1, 90)))
        before = copy.deepcopy(cases)
        first = [(layouts(*case), is_settled(*case)) for case in cases]
        for case, right in reversed(list(zip(cases, first))):
            self.assertEqual((layouts(*copy.deepcopy(case)), is_settled(*case)), right)
        self.assertEqual(cases, before)


if __name__ == '__main__':
    unittest.main()

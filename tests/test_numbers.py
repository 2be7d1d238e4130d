"""Points [8] and [11]: possible numbers of lines, and words that begin a line."""

import copy
import random
import unittest

from anyfont.numbers import line_numbers, line_starts
from samples import EMPTY, FIXED, NOTHING, TINY, known, random_text
from slow import random_knowledge
from slowlines import DecidingCase


def slow_starts(layouts):
    """Return for each word how often it begins a line, by going through all of its lines."""
    begins = []
    for layout in layouts:
        begins.append([place == 0 for many in layout for place in range(many)])
    return [
        'always' if all(word) else 'sometimes' if any(word) else 'never'
        for word in zip(*begins)
    ]


class NumbersCase(DecidingCase):
    def check(self, knowledge, text, measure, numbers=None, starts=None):
        case = (knowledge, text, measure)
        layouts = self.right_layouts(*case)
        self.assertEqual(line_numbers(*case), sorted(set(map(len, layouts))), case)
        if layouts:
            self.assertEqual(line_starts(*case), slow_starts(layouts), case)
        if numbers is not None:
            self.assertEqual(line_numbers(*case), numbers, case)
        if starts is not None:
            self.assertEqual(line_starts(*case), starts, case)


class LineNumbersTest(NumbersCase):
    def test_example(self):
        self.check(TINY, 'im im', 30, [1, 2])

    def test_each_number_once_and_ascending(self):
        # (1, 2) and (2, 1) both have two lines.
        self.check(NOTHING, 'i m mm', 50, [1, 2, 3])
        self.check(('a', ()), 'a a a a a a a a', 99, [1, 2, 3, 4])
        self.check(('a', ()), 'a a a a a a a a', 19, [1, 2, 3, 4, 8])
        self.check(('a', (((-1, -1), -10, False),)), 'a a a a a a a a', 99, [1, 2, 3, 4])

    def test_a_number_between_two_others_may_be_missing(self):
        # All lines but the last one take equally many words, so four words never take three lines.
        self.check(('i', (((1, 0), 0, False),)), 'i i i i', 19, [1, 2, 4])
        self.check(('i', (((1, 0), 0, False), ((0, -1), -10, False))), 'i i i i', 20, [2, 4])
        self.check(('i', (((1, 0), 0, False), ((0, -1), -10, True))), 'i i i i', 20, [4])

    def test_one_word(self):
        for knowledge in (NOTHING, TINY, FIXED):
            self.check(knowledge, 'mmmm', 1, [1], ['always'])
            self.check(knowledge, 'i', 999, [1], ['always'])

    def test_known_fonts(self):
        text = 'i m i m i m i m'
        for measure, number in ((1, 8), (5, 8), (6, 4), (9, 4), (10, 3), (12, 3), (13, 2), (26, 2), (27, 1)):
            self.check(known('im', 1, 2, 3), text, measure, [number])

    def test_without_a_fitting_font(self):
        for knowledge in EMPTY:
            self.check(knowledge, 'im', 9, [])
            self.check(knowledge, 'im mi i', 9, [])


class LineStartsTest(NumbersCase):
    def test_example(self):
        self.check(TINY, 'im im', 30, None, ['always', 'sometimes'])

    def test_always_never_and_sometimes(self):
        self.check(FIXED, 'i i i', 5, None, ['always', 'never', 'always'])
        self.check(FIXED, 'i i i', 8, None, ['always', 'never', 'never'])
        self.check(FIXED, 'i i i', 4, None, ['always', 'always', 'always'])
        self.check(('a', ()), 'a a a a', 100, None, ['always', 'never', 'never', 'sometimes'])
        self.check(('a', ()), 'a a a a a a a a', 99, None, ['always', 'never'] + ['sometimes'] * 6)

    def test_a_word_that_begins_a_line_in_all_layouts_but_one(self):
        # No line takes three words: (1, 1, 1), (1, 2) and (2, 1).
        broad = ('im', (((-1, 0, 0), -20, False),))
        self.check(broad, 'mm m i', 30, [2, 3], ['always', 'sometimes', 'sometimes'])
        # Not (1, 2), as a word of one m is never wider than one of two.
        self.check(broad, 'm i mm', 30, [2, 3], ['always', 'sometimes', 'always'])
        # (1, 1, 1, 1), (1, 2, 1), (2, 1, 1) and (2, 2): word 2 in all but the second one.
        self.check(broad, 'm m i m', 30, [2, 3, 4], ['always', 'sometimes', 'sometimes', 'sometimes'])

    def test_a_word_that_begins_a_line_in_just_one_layout(self):
        # (2, 2, 2), (3, 3), (4, 2), (5, 1) and (6,): word 2 in the first one, word 5 in the fourth one.
        text = 'a a a a a a'
        self.check(('a', ()), text, 99, [1, 2, 3], ['always', 'never'] + ['sometimes'] * 4)
        # Where a has no width, the first two words stand on a line.
        heavy = ('ab', (((1, 0, 0), 0, False), ((0, 0, -1), -19, False)))
        self.check(heavy, 'a a bb', 37, [2, 3], ['always', 'sometimes', 'always'])

    def test_eight_words(self):
        self.check(NOTHING, 'i m im mi i m im mi', 60)
        self.check(FIXED, 'i m im mi i m im mi', 12)
        self.check(TINY, 'i m im mi i m im mi', 60)

    def test_kinds(self):
        self.assertIs(type(line_numbers(TINY, 'im im', 30)), list)
        self.assertIs(type(line_starts(TINY, 'im im', 30)), list)


class ArbitraryTest(NumbersCase):
    def test_arbitrary_texts(self):
        source = random.Random(1)
        for _ in range(80):
            letters = source.choice(('a', 'im', 'abc', 'abcd'))
            knowledge = random_knowledge(source, letters, source.randint(0, 4))
            self.check(knowledge, random_text(source, letters, source.randint(1, 5), 6), source.randint(1, 200))

    def test_lists_are_new_and_arguments_do_not_change(self):
        before = copy.deepcopy(TINY)
        line_numbers(TINY, 'im im', 30).append(9)
        line_starts(TINY, 'im im', 30).append('never')
        self.assertEqual(line_numbers(TINY, 'im im', 30), [1, 2])
        self.assertEqual(line_starts(TINY, 'im im', 30), ['always', 'sometimes'])
        self.assertEqual(TINY, before)

    def test_equal_results_whatever_was_called_before(self):
        cases = [(knowledge, 'im i mi', measure) for knowledge in (NOTHING, TINY, FIXED) for measure in (5, 30, 60)]
        first = [(line_numbers(*case), line_starts(*case)) for case in cases]
        for case, right in reversed(list(zip(cases, first))):
            self.assertEqual((line_numbers(*copy.deepcopy(case)), line_starts(*case)), right)


if __name__ == '__main__':
    unittest.main()

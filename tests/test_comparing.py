"""Stage 6: strings that are never wider, wider, and widest."""

import copy
import itertools
import random
import unittest
from fractions import Fraction

from anyfont.comparing import find_wider, never_wider, widest
from anyfont.knowledge import fits, is_font
from anyfont.texts import width
from samples import FIXED, TINY
from slow import random_knowledge, slow_has_font

NOTHING = ('im', ())
EMPTY = (
    ('im', (((0, 1, 0), 3, False), ((0, -1, 0), -4, False))),
    ('im', (((0, 1, 0), 3, True), ((0, -1, 0), -3, False))),
    ('im', (((0, 0, 0), -1, False),)),
)


def excess(letters, string, other):
    return tuple(string.count(sign) - other.count(sign) for sign in ' ' + letters)


def slow_widest(knowledge, strings):
    return [
        index for index, string in enumerate(strings)
        if slow_has_font(knowledge, [(excess(knowledge[0], other, string), 0, False) for other in strings])
    ]


class NeverWiderTest(unittest.TestCase):
    def check(self, knowledge, string, other, right):
        """Check whether a string is never wider than another one, and the font if it may be."""
        case = (knowledge, string, other)
        self.assertIs(never_wider(knowledge, string, other), right, case)
        font = find_wider(knowledge, string, other)
        self.assertEqual(font is None, right, case)
        if font is not None:
            letters = knowledge[0]
            self.assertTrue(is_font(letters, font), case)
            self.assertTrue(fits(knowledge, font), case)
            self.assertGreater(Fraction(*width(letters, string, font)), Fraction(*width(letters, other, font)), case)

    def test_examples(self):
        self.assertEqual([never_wider(TINY, 'ii', 'm'), never_wider(TINY, 'm', 'ii')], [True, False])
        self.assertIsNone(find_wider(TINY, 'ii', 'm'))
        self.check(TINY, 'ii', 'm', True)
        self.check(TINY, 'm', 'ii', False)

    def test_empty_strings(self):
        for knowledge in (NOTHING, TINY, FIXED):
            self.check(knowledge, '', '', True)
            for string in ('i', ' ', 'm i', 'm' * 60):
                self.check(knowledge, '', string, True)
                self.check(knowledge, string, '', False)
        self.check(('im', (((1, 0, 0), 0, False),)), '   ', '', True)
        self.check(('im', (((0, 1, 1), 0, False),)), 'im', '', True)
        self.check(('im', (((0, 1, 1), 0, False),)), 'im ', '', False)

    def test_spaces_at_the_ends(self):
        for string in (' i', 'i ', '  i', ' i '):
            self.check(TINY, string, 'i', False)
            self.check(TINY, 'i', string, True)
        self.check(NOTHING, ' i', 'i ', True)
        self.check(NOTHING, '  i', ' i ', True)
        self.check(NOTHING, '  i', ' i', False)
        self.check(TINY, 'i  ', ' i', False)

    def test_the_same_signs_in_another_order(self):
        for string in (''.join(signs) for signs in itertools.permutations('i m ')):
            for knowledge in (NOTHING, TINY, FIXED):
                self.check(knowledge, string, ' im ', True)
                self.check(knowledge, ' im ', string, True)

    def test_one_within_the_other(self):
        whole = 'im mi i'
        for first in range(len(whole)):
            for behind in range(first, len(whole)):
                for knowledge in (NOTHING, TINY):
                    self.check(knowledge, whole[first:behind], whole, True)
                    self.check(knowledge, whole, whole[first:behind], False)

    def test_sixty_signs(self):
        self.check(TINY, 'i' * 60, 'm' * 30, True)
        self.check(TINY, 'i' * 60, 'm' * 29, False)
        self.check(TINY, 'i' * 60, 'm' * 29 + 'ii', True)
        self.check(TINY, 'm' * 60, 'i' * 60, False)
        self.check(TINY, 'i' * 60, 'm' * 60, True)
        self.check(NOTHING, 'i' * 60, 'i' * 59, False)
        self.check(NOTHING, 'im' * 30, 'mi' * 30, True)
        self.check(('abcd', ()), ' abcd' * 12, 'dcba ' * 12, True)
        self.check(('abcd', ()), ' abcd' * 12, 'dcba ' * 11 + 'dcba', False)

    def test_facts_that_just_imply_it(self):
        for strict in (False, True):
            # Three i are at most, or less than, two m.
            knowledge = ('im', (((0, 3, -2), 0, strict),))
            self.check(knowledge, 'iii', 'mm', True)
            self.check(knowledge, 'mm', 'iii', False)
            self.check(knowledge, 'iiii', 'mm', False)
            self.check(knowledge, 'iiii', 'mmm', True)
        equal = ('im', (((0, 3, -2), 0, False), ((0, -3, 2), 0, False)))
        self.check(equal, 'mm', 'iii', True)
        self.check(equal, 'iii', 'mm', True)
        self.check(equal, 'mmmm', 'iiiii', False)

    def test_all_widths_are_known(self):
        for string, other in itertools.product(('', ' ', 'i', 'm', 'ii', ' i', 'i m', 'mm', '  ii', ' mi'), repeat=2):
            wider = width('im', string, (1, (1, 2, 3))) > width('im', other, (1, (1, 2, 3)))
            self.check(FIXED, string, other, not wider)

    def test_without_a_fitting_font(self):
        for knowledge in EMPTY:
            for string, other in itertools.product(('', 'i', 'mm', ' '), repeat=2):
                self.check(knowledge, string, other, True)

    def test_against_corners(self):
        source = random.Random(1)
        for _ in range(100):
            knowledge = random_knowledge(source, 'im', source.randint(0, 4))
            string, other = (''.join(source.choices(' im', k=source.choice((2, 5, 60)))) for _ in range(2))
            wider = slow_has_font(knowledge, [(excess('im', other, string), 0, True)])
            self.check(knowledge, string, other, not wider)


class WidestTest(unittest.TestCase):
    def test_example(self):
        self.assertEqual(widest(TINY, ['ii', 'm', 'i i']), [1, 2])

    def test_one_string(self):
        for string in ('', ' ', 'i', 'm' * 60):
            self.assertEqual(widest(NOTHING, [string]), [0])

    def test_equal_strings(self):
        self.assertEqual(widest(NOTHING, ['i'] * 6), [0, 1, 2, 3, 4, 5])
        self.assertEqual(widest(TINY, ['ii', 'm', 'ii', 'm', 'm ']), [4])
        self.assertEqual(widest(TINY, ['m i', 'i', 'i m', 'm']), [0, 2])
        self.assertEqual(widest(NOTHING, ['', '', 'i']), [0, 1, 2])
        self.assertEqual(widest(FIXED, ['i', 'i ', ' i', 'm', '']), [1, 2, 3])

    def test_as_wide_in_one_font_only(self):
        # ii is as wide as m only where m is just twice as wide as i.
        self.assertEqual(widest(TINY, ['ii', 'm']), [0, 1])
        strict = ('im', (((0, 2, -1), 0, True),))
        self.assertEqual(widest(strict, ['ii', 'm']), [1])
        self.assertEqual(widest(strict, ['iii', 'm']), [0, 1])

    def test_never_the_widest_though_not_narrower_than_one_of_them(self):
        # im lies between ii and mm: it is widest only where i and m are as wide.
        self.assertEqual(widest(NOTHING, ['ii', 'im', 'mm']), [0, 1, 2])
        apart = ('im', (((0, 1, -1), 0, True),))
        self.assertEqual(widest(apart, ['ii', 'im', 'mm']), [2])
        # imm is wider than iiii for some fonts, than mmmm for others, than both for none.
        wide = ('im', (((0, -1, -1), -1, False),))
        self.assertIs(never_wider(wide, 'imm', 'iiii'), False)
        self.assertIs(never_wider(wide, 'imm', 'mmmm'), False)
        self.assertEqual(widest(wide, ['iiii', 'imm', 'mmmm']), [0, 2])
        self.assertEqual(widest(NOTHING, ['iiii', 'imm', 'mmmm']), [0, 1, 2])

    def test_six_strings(self):
        self.assertEqual(widest(NOTHING, ['i', 'm', ' ', '', 'im', 'i ']), [0, 1, 2, 3, 4, 5])
        # Where i has no width, m is as wide as im, and a space as wide as i with a space.
        self.assertEqual(widest(TINY, ['i', 'm', ' ', '', 'im', 'i ']), [1, 2, 4, 5])
        apart = (TINY[0], TINY[1] + (((0, -1, 0), 0, True),))
        self.assertEqual(widest(apart, ['i', 'm', ' ', '', 'im', 'i ']), [4, 5])
        self.assertEqual(widest(FIXED, ['i', 'm', ' ', '', 'im', 'i ']), [4])
        self.assertEqual(widest(TINY, ['m' * 60, 'i' * 60, ' ' * 60, 'm' * 59 + 'i', '', 'im' * 30]), [0, 2])

    def test_without_a_fitting_font(self):
        for knowledge in EMPTY:
            self.assertEqual(widest(knowledge, ['']), [])
            self.assertEqual(widest(knowledge, ['i', 'i', 'm', '', ' ', 'mm']), [])

    def test_against_corners(self):
        source = random.Random(2)
        for _ in range(60):
            letters = source.choice(('a', 'im'))
            knowledge = random_knowledge(source, letters, source.randint(0, 3))
            strings = [
                ''.join(source.choices(' ' + letters, k=source.randint(0, 5))) for _ in range(source.randint(1, 4))
            ]
            self.assertEqual(widest(knowledge, strings), slow_widest(knowledge, strings), (knowledge, strings))


class ArgumentsTest(unittest.TestCase):
    def test_arguments_are_not_modified_and_lists_are_new(self):
        strings = ['ii', 'm', 'i i']
        before = copy.deepcopy((TINY, strings))
        found = widest(TINY, strings)
        found.append(7)
        self.assertEqual((TINY, strings), before)
        self.assertEqual(widest(TINY, strings), [1, 2])
        strings[1] = 'mm'
        self.assertEqual(widest(TINY, strings), [1, 2])
        strings[1] = 'i'
        self.assertEqual(widest(TINY, strings), [2])
        self.assertEqual(widest(TINY, before[1]), [1, 2])

    def test_equal_results_whatever_was_called_before(self):
        pairs = list(itertools.product(('', ' ', 'i', 'm', 'im', 'ii', 'm m'), repeat=2))
        first = [find_wider(TINY, string, other) for string, other in pairs]
        for (string, other), right in reversed(list(zip(pairs, first))):
            find_wider(FIXED, string, other)
            self.assertEqual(find_wider(copy.deepcopy(TINY), string, other), right)


if __name__ == '__main__':
    unittest.main()

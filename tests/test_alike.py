"""Stage 11: texts that break differently for some font, needless facts, trimmed knowledges."""

import copy
import itertools
import random
import unittest

from anyfont.alike import find_split, is_needless, trimmed
from anyfont.knowledge import fits, is_font, is_knowledge
from samples import EMPTY, FIXED, NOTHING, TINY, known, random_text
from slow import random_knowledge, slow_has_font
from slowlines import DecidingCase, compositions, slow_layout, slow_rows


def negated(fact):
    factors, bound, strict = fact
    return tuple(-factor for factor in factors), -bound, not strict


def without(knowledge, index):
    letters, facts = knowledge
    return letters, tuple(fact for place, fact in enumerate(facts) if place != index)


class FindSplitTest(DecidingCase):
    def is_split(self, knowledge, text, measure, other, other_measure):
        """Return whether two texts break differently for some font, by all pairs of their layouts."""
        for layout in self.right_layouts(knowledge, text, measure):
            rows = slow_rows(knowledge[0], text, measure, layout)
            if self.right_layouts(knowledge, other, other_measure, rows) != [layout]:
                return True
        return False

    def check(self, knowledge, text, measure, other, other_measure, right=None):
        case = (knowledge, text, measure, other, other_measure)
        font = find_split(*case)
        if font is None:
            self.assertFalse(self.is_split(*case), case)
        else:
            self.assertTrue(is_font(knowledge[0], font), case)
            self.assertTrue(fits(knowledge, font), case)
            self.assertNotEqual(
                slow_layout(knowledge[0], text, measure, font),
                slow_layout(knowledge[0], other, other_measure, font),
                case,
            )
        if right is not None:
            self.assertEqual(font is not None, right, case)
            turned = find_split(knowledge, other, other_measure, text, measure)
            self.assertEqual(turned is not None, right, case)

    def test_example(self):
        self.assertIsNone(find_split(TINY, 'im im', 30, 'mi mi', 30))
        self.check(TINY, 'im im', 30, 'mi mi', 30, False)

    def test_one_word(self):
        for knowledge in (NOTHING, TINY, FIXED) + EMPTY:
            self.check(knowledge, 'mmmmmmmmm', 1, 'i', 999, False)

    def test_two_texts(self):
        self.check(TINY, 'im im', 30, 'im ii', 30, True)
        self.check(TINY, 'i i', 30, 'm m', 30, True)
        self.check(NOTHING, 'i mm im', 60, 'mm i mi', 60, True)
        self.check(NOTHING, 'i m im', 60, 'm i mi', 60, False)
        self.check(NOTHING, 'i m im', 60, 'm i mmm', 60, True)
        self.check(FIXED, 'i m im', 6, 'm i im', 6, False)
        self.check(FIXED, 'i i i', 5, 'm i i', 5, True)
        self.check(FIXED, 'i i i', 4, 'm m m', 6, False)
        # Two i are never wider than an m, but may be less wide.
        self.check(TINY, 'ii ii', 30, 'm m', 30, True)
        twice = ('im', (((0, 2, -1), 0, False), ((0, -2, 1), 0, False)))
        self.check(twice, 'ii ii i', 30, 'm m i', 30, False)
        self.check(twice, 'ii i ii', 30, 'm i m', 30, False)

    def test_the_same_text_at_two_measures(self):
        for text in ('i m', 'im i m', 'im mi i mm'):
            self.check(NOTHING, text, 30, text, 30, False)
            self.check(NOTHING, text, 30, text, 31, True)
            self.check(NOTHING, text, 1, text, 999, True)
        # The line with two i is 5 wide, the one with three 8: between these nothing changes.
        self.check(FIXED, 'i i i', 5, 'i i i', 7, False)
        self.check(FIXED, 'i i i', 4, 'i i i', 5, True)
        self.check(FIXED, 'i i i', 7, 'i i i', 8, True)
        # No text of two i is wider than 60.
        self.check(NOTHING, 'i i', 60, 'i i', 999, False)
        self.check(NOTHING, 'i i', 59, 'i i', 999, True)

    def test_bounds_that_are_just_met(self):
        for strict in (False, True):
            # A line of two i is more than, or at least, 9 wide.
            low = ('i', (((-1, -2), -9, strict),))
            self.check(low, 'i i', 8, 'i i', 7, False)
            self.check(low, 'i i', 9, 'i i', 8, not strict)
            self.check(low, 'i i', 10, 'i i', 9, True)

    def test_only_the_last_break_differs(self):
        self.check(NOTHING, 'i i i i', 30, 'i i i m', 30, True)
        self.check(known('im', 1, 2, 3), 'i i i i', 11, 'i i i m', 11, True)
        self.check(known('im', 1, 2, 3), 'i i i i', 12, 'i i i m', 12, False)
        self.check(known('im', 1, 2, 3), 'i i i i', 10, 'i i i m', 10, False)

    def test_eight_words(self):
        text, other = 'im i mi m i im m mi', 'mi i im m i mi m im'
        self.check(NOTHING, text, 60, other, 60, False)
        self.check(TINY, text, 60, other, 60, False)
        self.check(FIXED, text, 12, other, 12, False)
        self.check(NOTHING, text, 60, text, 61, True)
        self.check(NOTHING, text, 60, other[:-1] + 'i', 60, True)
        self.check(FIXED, text, 12, other, 14)
        self.check(('abcd', ()), 'ab c d ad bc a cb d', 50, 'ba c d da cb a bc d', 50, False)
        self.check(('abcd', ()), 'ab c d ad bc a cb d', 50, 'ba c d da cb a bc c', 50, True)

    def test_without_a_fitting_font(self):
        for knowledge in EMPTY:
            self.check(knowledge, 'i i m', 1, 'mm i m', 999, False)

    def test_against_corners(self):
        source = random.Random(1)
        for _ in range(60):
            knowledge = random_knowledge(source, 'a', source.randint(0, 3))
            words = source.randint(1, 3)
            text, other = random_text(source, 'a', words, 3), random_text(source, 'a', words, 3)
            measure = source.randint(1, 60)
            other_measure = measure + source.choice((0, 0, 1, 7))
            right = any(
                slow_has_font(
                    knowledge,
                    slow_rows('a', text, measure, layout) + slow_rows('a', other, other_measure, other_layout),
                )
                for layout, other_layout in itertools.permutations(compositions(words), 2)
            )
            self.check(knowledge, text, measure, other, other_measure, right)

    def test_arbitrary_texts(self):
        source = random.Random(2)
        for _ in range(150):
            letters = source.choice(('a', 'im', 'abc', 'abcd'))
            knowledge = random_knowledge(source, letters, source.randint(0, 4))
            words = source.randint(1, 4)
            text = random_text(source, letters, words, 3)
            other = text if source.random() < 0.3 else random_text(source, letters, words, 3)
            measure = source.randint(1, 60)
            self.check(knowledge, text, measure, other, measure + source.choice((0, 0, 1, 9)))

    def test_equal_results_whatever_was_called_before(self):
        cases = [(knowledge, 'i m im', measure, 'im i m', 40) for knowledge in (TINY, NOTHING) for measure in (30, 40)]
        before = copy.deepcopy(cases)
        first = [find_split(*case) for case in cases]
        for case, right in reversed(list(zip(cases, first))):
            self.assertEqual(find_split(*copy.deepcopy(case)), right)
        self.assertEqual(cases, before)


class NeedlessCase(DecidingCase):
    def is_right(self, knowledge, index):
        """Return whether a fact is needless, by a refutation or a font."""
        return self.decide(without(knowledge, index), [negated(knowledge[1][index])]) is None

    def check(self, knowledge, needless, left=None):
        """Check which facts are needless, and which ones are left (given by their indices)."""
        facts = knowledge[1]
        found = [is_needless(knowledge, index) for index in range(len(facts))]
        self.assertEqual(found, [self.is_right(knowledge, index) for index in range(len(facts))], knowledge)
        self.assertTrue(all(type(answer) is bool for answer in found))
        if needless is not None:
            self.assertEqual([index for index, answer in enumerate(found) if answer], needless, knowledge)
        self.assertEqual(trimmed(knowledge), self.right_trimmed(knowledge), knowledge)
        if left is not None:
            self.assertEqual(trimmed(knowledge), (knowledge[0], tuple(facts[index] for index in left)))
        self.assertTrue(is_knowledge(trimmed(knowledge)))

    def right_trimmed(self, knowledge):
        for index in reversed(range(len(knowledge[1]))):
            if self.is_right(knowledge, index):
                knowledge = without(knowledge, index)
        return knowledge


class NeedlessTest(NeedlessCase):
    def test_examples(self):
        knowledge = ('a', (((0, 1), 5, False), ((0, 2), 11, False)))
        self.assertIs(is_needless(knowledge, 1), True)
        self.assertIs(is_needless(knowledge, 0), False)
        self.assertEqual(trimmed(knowledge), ('a', (((0, 1), 5, False),)))
        self.check(knowledge, [1], [0])

    def test_no_fact(self):
        self.check(NOTHING, [], [])
        self.assertEqual(trimmed(NOTHING), NOTHING)

    def test_a_fact_twice(self):
        # Each is needless because of the other one; the last one is taken away.
        fact, other = ((0, 1, -1), 3, False), ((1, 0, 0), 2, True)
        self.check(('im', (fact, fact)), [0, 1], [0])
        self.check(('im', (fact, other, fact)), [0, 2], [0, 1])
        self.check(('im', (other, fact, fact, other)), [0, 1, 2, 3], [0, 1])

    def test_a_fact_twice_as_large(self):
        fact, twice = ((0, 1, -1), 3, False), ((0, 2, -2), 6, False)
        self.check(('im', (fact, twice)), [0, 1], [0])
        self.check(('im', (twice, fact)), [0, 1], [0])
        self.check(('im', (((0, 1, -1), 3, True), ((0, 2, -2), 6, True))), [0, 1], [0])

    def test_weaker_facts(self):
        self.check(('im', (((0, 1, -1), 3, False), ((0, 1, -1), 4, False))), [1], [0])
        self.check(('im', (((0, 1, -1), 4, False), ((0, 1, -1), 3, False))), [0], [1])
        self.check(('im', (((0, 1, -1), 3, False), ((0, 1, -1), 3, True))), [0], [1])
        self.check(('im', (((0, 1, -1), 3, True), ((0, 1, -1), 3, False))), [1], [0])
        self.check(('im', (((0, 1, -1), 4, True), ((0, 1, -1), 3, False))), [0], [1])
        self.check(('im', (((0, 1, 0), 7, False), ((0, 1, -1), 7, False))), [1], [0])

    def test_sums_of_two_others(self):
        first, second, both = ((1, 1, 0), 5, False), ((0, 0, 1), 4, False), ((1, 1, 1), 9, False)
        self.check(('im', (first, second, both)), [2], [0, 1])
        self.check(('im', (both, second, first)), [0], [1, 2])
        self.check(('im', (first, second, both[:2] + (True,))), [], [0, 1, 2])
        self.check(('im', (first[:2] + (True,), second, both[:2] + (True,))), [2], [0, 1])
        self.check(('im', (first, second, ((1, 1, 1), 8, False))), [], [0, 1, 2])

    def test_a_round_of_facts(self):
        # i is at most m, m at most the space, the space at most i: together they are equal.
        round_of = ('im', (((0, 1, -1), 0, False), ((-1, 0, 1), 0, False), ((1, -1, 0), 0, False)))
        self.check(round_of, [], [0, 1, 2])
        self.check(('im', round_of[1] + (((0, -1, 1), 0, False),)), [3], [0, 1, 2])

    def test_what_each_font_meets(self):
        self.check(('im', (((1, 0, 0), 20, False), ((0, -1, 0), 0, False), ((0, 0, 0), 0, False))), [0, 1, 2], [])
        self.check(('im', (((1, 0, 0), 20, True), ((0, -1, 0), 0, True), ((0, 0, 0), 1, True))), [2], [0, 1])
        self.check(('im', (((1, 1, 1), 60, False), ((1, 1, 1), 59, False))), [0], [1])

    def test_contradictions(self):
        for knowledge, needless, left in zip(EMPTY, ([], [], []), ([0, 1], [0, 1], [0])):
            self.check(knowledge, needless, left)
        # Any one of three is needless where the two others contradict each other.
        low, high, nothing = ((0, 1, 0), 3, False), ((0, -1, 0), -4, False), ((0, 0, 0), -1, False)
        self.check(('im', (low, high, nothing)), [0, 1, 2], [0, 1])
        self.check(('im', (nothing, low, high)), [0, 1, 2], [0])
        self.check(('im', (low, nothing, high)), [0, 1, 2], [1])
        self.check(('im', (nothing, nothing)), [0, 1], [0])
        self.check(('im', (low, high, ((1, 0, 0), 3, False))), [2], [0, 1])

    def test_eight_facts(self):
        self.check(('im', (((0, 1, 1), 9, False),) * 8), list(range(8)), [0])
        falling = tuple(((0, 1, 1), bound, False) for bound in range(19, 11, -1))
        self.check(('im', falling), [0, 1, 2, 3, 4, 5, 6], [7])
        self.check(('im', falling[::-1]), [1, 2, 3, 4, 5, 6, 7], [0])
        self.check(known('abc', 1, 2, 3, 4), [], list(range(8)))
        self.check(('im', FIXED[1] + (((1, 1, 1), 6, False), ((-1, -1, -1), -6, False))), None)

    def test_from_the_last_to_the_first(self):
        # Each two of these three make the third one needless.
        facts = (((1, 1, 0), 0, False), ((1, 0, 1), 0, False), ((0, 1, 1), 0, False))
        self.check(('im', facts), [0, 1, 2], [0, 1])
        self.check(('im', facts[1:] + facts[:1]), [0, 1, 2], [0, 1])
        knowledge = ('im', (((0, 2, 0), 10, False), ((0, 1, 0), 5, False), ((0, 3, 0), 15, False)))
        self.check(knowledge, [0, 1, 2], [0])

    def test_against_corners(self):
        source = random.Random(3)
        for _ in range(80):
            letters, facts = random_knowledge(source, source.choice(('a', 'im')), source.randint(1, 3))
            # A sum of two facts, and sometimes a fact once more, so that some are needless.
            first, second = source.choice(facts), source.choice(facts)
            factors = tuple(one + two for one, two in zip(first[0], second[0]))
            facts += ((factors, first[1] + second[1] + source.choice((0, 1)), source.random() < 0.3),)
            for index in range(len(facts)):
                knowledge = (letters, facts)
                right = not slow_has_font(without(knowledge, index), [negated(facts[index])])
                self.assertIs(is_needless(knowledge, index), right, (knowledge, index))

    def test_arbitrary_knowledges(self):
        source = random.Random(4)
        for _ in range(100):
            letters = source.choice(('a', 'im', 'abc', 'abcd'))
            self.check(random_knowledge(source, letters, source.randint(0, 8)), None)

    def test_arguments_are_not_modified(self):
        knowledge = ('im', (((0, 1, 1), 9, False), ((0, 1, 1), 10, False)))
        before = copy.deepcopy(knowledge)
        for _ in range(2):
            self.assertIs(is_needless(knowledge, 1), True)
            self.assertEqual(trimmed(knowledge), ('im', (((0, 1, 1), 9, False),)))
            trimmed(TINY)
        self.assertEqual(knowledge, before)


if __name__ == '__main__':
    unittest.main()

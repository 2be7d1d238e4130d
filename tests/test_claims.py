"""Point [10]: opposites, sure and possible claims, least upper bounds."""

import copy
import itertools
import random
import unittest
from math import gcd

from anyfont.claims import highest, is_possible, is_sure, opposite
from anyfont.knowledge import holds, is_condition
from samples import FIXED, TINY
from slow import random_condition, random_knowledge, slow_has_font, slow_highest

# At most 3 and at least 4; less than 3 and at least 3; no font at all.
EMPTY = (
    ('a', (((0, 1), 3, False), ((0, -1), -4, False))),
    ('a', (((0, 1), 3, True), ((0, -1), -3, False))),
    ('a', (((0, 0), -1, False),)),
)
LETTERS = ('a', 'im', 'abc', 'abcd')


class OppositeTest(unittest.TestCase):
    def test_example(self):
        self.assertEqual(opposite(((0, 2, -1), 0, False)), ((0, -2, 1), 0, True))

    def test_strict_and_not_strict(self):
        self.assertEqual(opposite(((1, -2), 3, True)), ((-1, 2), -3, False))
        self.assertEqual(opposite(((1, -2), -3, False)), ((-1, 2), 3, True))
        for strict in (False, True):
            self.assertIs(opposite(((1, -2), 3, strict))[2], not strict)

    def test_edges(self):
        self.assertEqual(opposite(((99, -99, 0, 1, -1), 9999, False)), ((-99, 99, 0, -1, 1), -9999, True))
        self.assertEqual(opposite(((0, 0), 0, True)), ((0, 0), 0, False))

    def test_is_a_condition_that_holds_for_the_other_fonts(self):
        source = random.Random(1)
        for _ in range(200):
            condition = random_condition(source, 3, (1, 2, 4))
            other = opposite(condition)
            self.assertTrue(is_condition('im', other))
            self.assertEqual(opposite(other), condition)
            for font in ((1, (1, 2, 4)), (2, (2, 5, 8)), (1, (0, 0, 0)), (3, (60, 1, 7))):
                self.assertNotEqual(holds(condition, font), holds(other, font))


class SureAndPossibleTest(unittest.TestCase):
    def check(self, knowledge, claim, sure, possible):
        self.assertIs(is_sure(knowledge, claim), sure, (knowledge, claim))
        self.assertIs(is_possible(knowledge, claim), possible, (knowledge, claim))

    def test_examples(self):
        self.check(TINY, ((0, 4, -2), 0, False), True, True)
        self.check(TINY, ((0, 0, 1), 0, False), False, True)
        self.check(TINY, ((1, 0, 0), 1, True), False, False)

    def test_all_widths_are_known(self):
        for bound, strict, right in ((7, False, True), (6, False, False), (7, True, False), (8, True, True)):
            self.check(FIXED, ((0, 2, 1), bound, strict), right, right)

    def test_implied_just_implied_and_just_not(self):
        knowledge = ('a', (((1, 1), 7, False), ((-1, -1), -5, False)))
        for bound, sure, possible in (
            (8, True, True), (7, True, True), (6, False, True), (5, False, True), (4, False, False),
        ):
            self.check(knowledge, ((1, 1), bound, False), sure, possible)
        for bound, sure, possible in (
            (8, True, True), (7, False, True), (6, False, True), (5, False, False), (4, False, False),
        ):
            self.check(knowledge, ((1, 1), bound, True), sure, possible)

    def test_strict_facts(self):
        knowledge = ('a', (((1, 1), 7, True), ((-1, -1), -5, True)))
        for strict in (False, True):
            for bound, sure, possible in (
                (8, True, True), (7, True, True), (6, False, True), (5, False, False), (4, False, False),
            ):
                self.check(knowledge, ((1, 1), bound, strict), sure, possible)

    def test_several_facts_together(self):
        # b is at least twice c, c at least three times d.
        knowledge = ('bcd', (((0, -1, 2, 0), 0, False), ((0, 0, -1, 3), 0, False)))
        self.check(knowledge, ((0, -1, 0, 6), 0, False), True, True)
        self.check(knowledge, ((0, -1, 0, 6), 0, True), False, True)
        self.check(knowledge, ((0, -1, 0, 7), 0, False), False, True)
        self.check(knowledge, ((0, 1, 0, -6), 0, True), False, False)
        self.check(knowledge, ((0, 0, 0, 3), 10, False), True, True)
        self.check(knowledge, ((0, 0, 0, 3), 10, True), False, True)

    def test_widths_are_from_0_to_20(self):
        for letters in LETTERS:
            many = len(letters) + 1
            for sign in range(many):
                up = tuple(int(place == sign) for place in range(many))
                down = tuple(-factor for factor in up)
                self.check((letters, ()), (up, 20, False), True, True)
                self.check((letters, ()), (up, 20, True), False, True)
                self.check((letters, ()), (down, 0, False), True, True)
                self.check((letters, ()), (down, 0, True), False, True)
                self.check((letters, ()), (up, 0, True), False, False)
                self.check((letters, ()), (down, -20, True), False, False)

    def test_claims_without_factors(self):
        for knowledge in (TINY, FIXED, ('im', ())):
            self.check(knowledge, ((0, 0, 0), 0, False), True, True)
            self.check(knowledge, ((0, 0, 0), 0, True), False, False)
            self.check(knowledge, ((0, 0, 0), 1, True), True, True)
            self.check(knowledge, ((0, 0, 0), -1, False), False, False)

    def test_without_a_fitting_font(self):
        for knowledge in EMPTY:
            for factors, bound, strict in itertools.product(((0, 1), (0, -1), (0, 0)), (-9, 0, 9), (False, True)):
                self.check(knowledge, (factors, bound, strict), True, False)

    def test_an_opposite_is_sure_where_a_claim_is_not_possible(self):
        source = random.Random(2)
        for _ in range(200):
            letters = source.choice(LETTERS)
            knowledge = random_knowledge(source, letters, source.randint(0, 8))
            claim = random_condition(source, len(letters) + 1)
            self.assertNotEqual(is_sure(knowledge, claim), is_possible(knowledge, opposite(claim)))
            self.assertNotEqual(is_sure(knowledge, opposite(claim)), is_possible(knowledge, claim))

    def test_against_corners(self):
        source = random.Random(3)
        for _ in range(100):
            letters = source.choice(('a', 'im'))
            knowledge = random_knowledge(source, letters, source.randint(0, 4))
            claim = random_condition(source, len(letters) + 1, (3,) * 3)
            self.assertIs(is_possible(knowledge, claim), slow_has_font(knowledge, [claim]))
            self.assertIs(is_sure(knowledge, claim), not slow_has_font(knowledge, [opposite(claim)]))


class HighestTest(unittest.TestCase):
    def test_examples(self):
        self.assertEqual(highest(TINY, (0, 1, 0)), (10, 1, True))
        self.assertEqual(highest(('a', (((0, 3), 7, True),)), (0, 1)), (7, 3, False))

    def test_all_factors_0(self):
        for letters in LETTERS:
            self.assertEqual(highest((letters, ()), (0,) * (len(letters) + 1)), (0, 1, True))
        self.assertEqual(highest(FIXED, (0, 0, 0)), (0, 1, True))
        self.assertEqual(highest(('a', (((0, 3), 7, True),)), (0, 0)), (0, 1, True))
        self.assertEqual(highest(('a', (((0, 3), 7, True), ((0, -1), 0, True))), (0, 0)), (0, 1, True))

    def test_factors_below_and_above_0(self):
        for letters in LETTERS:
            many = len(letters) + 1
            for factors in itertools.product((-99, 0, 1, 99), repeat=many):
                top = 20 * sum(factor for factor in factors if factor > 0)
                self.assertEqual(highest((letters, ()), factors), (top, 1, True))
        self.assertEqual(highest(TINY, (-1, 0, 0)), (-1, 1, True))
        self.assertEqual(highest(TINY, (-3, 1, -1)), (-3, 1, True))
        self.assertEqual(highest(TINY, (0, -1, 1)), (20, 1, True))
        self.assertEqual(highest(FIXED, (-99, 99, -99)), (-198, 1, True))

    def test_reached_and_not(self):
        for strict in (False, True):
            facts = (((0, 2, 4), 9, strict), ((1, 0, 0), 3, strict))
            self.assertEqual(highest(('im', facts), (0, 1, 2)), (9, 2, not strict))
            self.assertEqual(highest(('im', facts), (1, 0, 0)), (3, 1, not strict))
            self.assertEqual(highest(('im', facts), (0, 1, 1)), (9, 2, not strict))
            self.assertEqual(highest(('im', facts), (0, -1, -2)), (0, 1, True))
            self.assertEqual(highest(('im', facts), (-1, 0, 0)), (0, 1, True))

    def test_a_strict_fact_that_meets_the_highest_fonts_in_part(self):
        # The highest widths of i are reached, though not together with an m of 20.
        knowledge = ('im', (((0, 1, 0), 5, False), ((0, 1, 1), 25, True)))
        self.assertEqual(highest(knowledge, (0, 1, 0)), (5, 1, True))
        self.assertEqual(highest(knowledge, (0, 1, 1)), (25, 1, False))
        self.assertEqual(highest(knowledge, (0, 2, 1)), (30, 1, False))
        self.assertEqual(highest(knowledge, (0, 0, 1)), (20, 1, True))
        self.assertEqual(highest(knowledge, (0, -1, 1)), (20, 1, True))

    def test_a_strict_fact_through_one_corner_only(self):
        # i + m < 40 takes just the corner where both are 20.
        self.assertEqual(highest(('im', (((0, 1, 1), 40, True),)), (0, 1, 0)), (20, 1, True))
        self.assertEqual(highest(('im', (((0, 1, 1), 40, True),)), (0, 1, 1)), (40, 1, False))
        facts = (((0, 1, 1), 40, True), ((0, 1, -1), 0, False), ((0, -1, 1), 0, False))
        self.assertEqual(highest(('im', facts), (0, 1, 0)), (20, 1, False))

    def test_a_strict_and_a_wide_fact(self):
        self.assertEqual(highest(('a', (((0, 1), 5, False), ((0, 1), 5, True))), (0, 1)), (5, 1, False))
        self.assertEqual(highest(('a', (((0, 1), 5, False), ((0, 1), 6, True))), (0, 1)), (5, 1, True))

    def test_lowest_terms(self):
        self.assertEqual(highest(('a', (((0, 6), 9, False),)), (0, 2)), (3, 1, True))
        self.assertEqual(highest(('a', (((0, 6), 9, False),)), (0, 1)), (3, 2, True))
        self.assertEqual(highest(('a', (((0, -6), -9, False),)), (0, -1)), (-3, 2, True))
        self.assertEqual(highest(('a', (((0, -6), -9, True),)), (0, -4)), (-6, 1, False))
        self.assertEqual(highest(('ab', (((0, 99, 1), 1, False), ((0, 1, -98), 0, False))), (0, 99, 0)), (9702, 9703, True))

    def test_none_without_a_font(self):
        for knowledge in EMPTY:
            for factors in ((0, 0), (0, 1), (0, -1), (99, -99)):
                self.assertIsNone(highest(knowledge, factors))

    def test_one_font(self):
        for factors in itertools.product((-2, 0, 1, 5), repeat=3):
            right = factors[0] + 2 * factors[1] + 3 * factors[2]
            self.assertEqual(highest(FIXED, factors), (right, 1, True))

    def test_against_corners(self):
        source = random.Random(4)
        for _ in range(300):
            letters = source.choice(('a', 'im'))
            many = len(letters) + 1
            knowledge = random_knowledge(source, letters, source.randint(0, 4))
            factors = tuple(source.choice((0, 1, 1)) * source.randint(-9, 9) for _ in range(many))
            self.assertEqual(highest(knowledge, factors), slow_highest(knowledge, factors), (knowledge, factors))

    def test_small_factors_against_corners(self):
        source = random.Random(5)
        for _ in range(400):
            facts = tuple(
                (tuple(source.randint(-1, 1) for _ in range(3)), source.randint(-1, 1), source.random() < 0.5)
                for _ in range(source.randint(1, 5))
            )
            factors = tuple(source.randint(-1, 1) for _ in range(3))
            self.assertEqual(highest(('im', facts), factors), slow_highest(('im', facts), factors), (facts, factors))

    def test_large_knowledges_against_claims(self):
        source = random.Random(6)
        for _ in range(150):
            knowledge = random_knowledge(source, 'abcd', 8)
            factors = tuple(source.randint(-99, 99) for _ in range(5))
            found = highest(knowledge, factors)
            if found is None:
                self.assertIs(is_possible(knowledge, ((0,) * 5, 0, False)), False)
                continue
            top, bottom, is_reached = found
            self.assertGreater(bottom, 0)
            self.assertEqual(gcd(top, bottom), 1)
            self.assertIs(type(is_reached), bool)
            # These claims have larger numbers than a condition, which the solver does not mind.
            scaled = tuple(bottom * factor for factor in factors)
            less = tuple(-10 ** 30 * factor for factor in scaled)
            self.assertIs(is_sure(knowledge, (scaled, top, False)), True)
            self.assertIs(is_sure(knowledge, (scaled, top, True)), not is_reached)
            self.assertIs(is_possible(knowledge, (less, 1 - 10 ** 30 * top, False)), True)


class ArgumentsTest(unittest.TestCase):
    def test_arguments_are_not_modified(self):
        claim = ((0, 4, -2), 0, False)
        before = copy.deepcopy((TINY, claim))
        opposite(claim)
        is_sure(TINY, claim)
        is_possible(TINY, claim)
        highest(TINY, claim[0])
        self.assertEqual((TINY, claim), before)

    def test_equal_results_whatever_was_called_before(self):
        claims = [((0, 1, 0), bound, strict) for bound in range(12) for strict in (False, True)]
        first = [(is_sure(TINY, claim), is_possible(TINY, claim)) for claim in claims]
        for claim, right in reversed(list(zip(claims, first))):
            self.assertEqual(highest(FIXED, claim[0]), (2, 1, True))
            self.assertEqual((is_sure(TINY, claim), is_possible(TINY, claim)), right)
            self.assertEqual(highest(TINY, claim[0]), (10, 1, True))

    def test_kinds(self):
        self.assertEqual([type(part) for part in highest(TINY, (0, 1, 0))], [int, int, bool])
        self.assertEqual([type(part) for part in opposite(((0, 1), 2, True))], [tuple, int, bool])


if __name__ == '__main__':
    unittest.main()

"""Points [20] and [21]: goals that are reached, trees and their costs."""

import copy
import random
import unittest

from anyfont.claims import opposite
from anyfont.fewest import fewest_lines
from anyfont.layouts import layouts
from anyfont.trees import find_tree, has_reached, least_cost, tree_cost
from agreeing import orders, random_agreeing
from samples import EMPTY, FIXED, FOUR, ODD_VALUES, PRINTS, SHOWN, TINY, TRADE, known
from searching import SearchingCase, dicts_within, random_goal, random_search
from slowchecks import slow_tree_cost, variants

TEXT = 'ii i m mm'
FOURS = ('layout', 'i i i i', 12)
TWO_LINES = ('lines', TEXT, 20, 2)
IS_NARROW = ('claim', ((0, 1), 20, False))
IS_SHORT = ('claim', ((0, 1), 5, False))
CLAIMS = ((('claim', ((0, 1), 5, True)), 2), (('claim', ((0, 1), 5, False)), 3))
# Knowing whether i is less than 5 and whether it is at most 5 tells whether it is 5.
IS_FIVE = ('layout', 'i i', 10)


def priced(*prices):
    return tuple((question, price) for (question, _), price in zip(PRINTS, prices))


class HasReachedTest(SearchingCase):
    def test_claims(self):
        self.assertIs(has_reached(FOUR, PRINTS, (), IS_NARROW), True)
        self.assertIs(has_reached(FOUR, PRINTS, (), IS_SHORT), False)
        for seen, right in (
            (((0, (2,)),), True), (((1, (2,)),), True), (((2, (2,)),), False), (((2, (1, 1)),), True),
            (((0, (1, 1)),), False), (((1, (1, 1)), (2, (2,))), False), (((0, (1, 1)), (1, (2,))), True),
        ):
            for other in orders(seen):
                self.assertIs(has_reached(FOUR, PRINTS, other, IS_SHORT), right, other)

    def test_strict_claims(self):
        knowledge = ('i', (((1, 0), 0, False), ((0, 1), 5, False)))
        self.assertIs(has_reached(knowledge, (), (), ('claim', ((0, 1), 5, True))), False)
        self.assertIs(has_reached(knowledge, (), (), ('claim', ((0, 1), 5, False))), True)
        self.assertIs(has_reached(knowledge, (), (), ('claim', ((0, -1), -5, True))), True)
        self.assertIs(has_reached(knowledge, (), (), ('claim', ((0, -1), -5, False))), False)

    def test_layouts(self):
        self.assertIs(has_reached(FOUR, PRINTS, ((0, (2,)),), FOURS), True)
        self.assertIs(has_reached(FOUR, PRINTS, ((1, (2,)),), FOURS), False)
        self.assertIs(has_reached(FOUR, PRINTS, ((1, (2,)), (0, (1, 1))), FOURS), True)
        self.assertIs(has_reached(FOUR, PRINTS, ((2, (1, 1)),), FOURS), True)
        self.assertIs(has_reached(FOUR, PRINTS, ((1, (1, 1)),), FOURS), False)
        for text in ('i', 'iii'):
            self.assertIs(has_reached(FOUR, (), (), ('layout', text, 1)), True)
        self.assertIs(has_reached(FIXED, (), (), ('layout', 'i m i m', 9)), True)
        self.assertIs(has_reached(TINY, (), (), ('layout', 'im im', 30)), False)

    def test_lines(self):
        for seen, fewest in (((), 3), (((0, (2,)),), 2), (((0, (1, 1)),), 2)):
            for n in range(1, 8):
                self.assertIs(has_reached(TRADE, SHOWN, seen, ('lines', TEXT, 20, n)), n >= fewest, (seen, n))
        for n in range(1, 4):
            self.assertIs(has_reached(FIXED, (), (), ('lines', 'm', 1, n)), True)
            self.assertIs(has_reached(FIXED, (), (), ('lines', 'm m', 6, n)), n >= 2)
            self.assertIs(has_reached(FIXED, (), (), ('lines', 'm m', 7, n)), True)

    def test_without_an_agreeing_font(self):
        for goal in (FOURS, IS_SHORT, ('lines', 'i i i i', 1, 1), ('layout', 'i', 1)):
            self.assertIs(has_reached(FOUR, PRINTS, ((0, (2,)), (2, (1, 1))), goal), True)
        for knowledge in EMPTY:
            for goal in (TWO_LINES, ('claim', ((0, 1, 0), 5, False)), ('layout', TEXT, 20), ('lines', TEXT, 1, 1)):
                self.assertIs(has_reached(knowledge, (), (), goal), True)

    def test_what_is_reached_stays_reached(self):
        source = random.Random(1)
        changes = 0
        for _ in range(150):
            knowledge, probes, seen = random_agreeing(source, source.choice(('a', 'im', 'abc')), 3)
            goal = random_goal(source, knowledge[0])
            found = [has_reached(knowledge, probes, seen[:many], goal) for many in range(len(seen) + 1)]
            self.assertEqual(found, sorted(found), (knowledge, probes, seen, goal))
            changes += found[0] != found[-1]
        self.assertGreater(changes, 5)

    def test_against_other_stages(self):
        source = random.Random(2)
        for _ in range(60):
            knowledge, probes, seen, goal = random_search(source, source.choice(('a', 'im', 'abc')), 3)
            self.assertIs(has_reached(knowledge, probes, seen, goal), self.slow_reached(knowledge, probes, seen, goal))
            if goal[0] == 'lines':
                fewest = fewest_lines(knowledge, probes, seen, *goal[1:3])
                for n in range(1, 6):
                    self.assertIs(has_reached(knowledge, probes, seen, (*goal[:3], n)), n >= fewest)
            if goal[0] == 'layout' and not seen:
                self.assertIs(has_reached(knowledge, probes, seen, goal), len(layouts(knowledge, *goal[1:])) <= 1)


class FindTreeTest(SearchingCase):
    def test_examples(self):
        self.check(FOUR, PRINTS, (), FOURS, 2)
        self.check(TRADE, SHOWN, (), TWO_LINES, 1)
        self.check(TRADE, SHOWN, (), ('lines', TEXT, 20, 1), None)
        self.check(FOUR, PRINTS, (), IS_NARROW, 0)
        self.assertIsNone(find_tree(FOUR, PRINTS, (), FOURS, 1))

    def test_prices(self):
        # The best is to ask 1, and then 0 or 2; all other orders may take all three.
        for prices, right in (
            ((1, 1, 1), 2), ((2, 3, 4), 7), ((4, 3, 2), 7), ((9, 1, 9), 10), ((1, 9, 1), 10), ((9, 9, 9), 18),
            ((1, 9, 9), 18), ((3, 2, 5), 7), ((5, 2, 3), 7),
        ):
            self.check(FOUR, priced(*prices), (), FOURS, right)

    def test_no_probe(self):
        self.check(FOUR, (), (), FOURS, None)
        self.check(FIXED, (), (), ('layout', 'i m i m', 9), 0)
        self.check(FIXED, (), (), ('claim', ((0, 1, 0), 2, True)), 0)
        self.check(TINY, (), (), ('lines', 'im mi', 50, 1), None)
        self.check(TINY, (), (), ('lines', 'im mi', 80, 1), 0)

    def test_one_probe(self):
        for price in (1, 5, 9):
            self.check(FOUR, PRINTS[:1], (), FOURS, None)
            self.check(FOUR, ((IS_SHORT, price),), (), IS_SHORT, price)
            self.check(FOUR, ((FOURS, price),), (), FOURS, price)
            self.check(TRADE, ((SHOWN[0][0], price),), (), TWO_LINES, price)
            self.check(TRADE, ((SHOWN[0][0], price),), (), ('lines', TEXT, 20, 3), 0)
        self.check(FOUR, ((FOURS, 3),), (), ('claim', ((0, 1), 4, False)), 3)
        self.check(FOUR, ((FOURS, 3),), (), ('claim', ((0, 1), 5, False)), None)

    def test_two_probes(self):
        self.check(FOUR, CLAIMS, (), IS_FIVE, 3)
        self.check(FOUR, CLAIMS[:1], (), IS_FIVE, None)
        self.check(FOUR, CLAIMS, (), ('lines', 'i i', 10, 1), None)
        self.check(FOUR, ((IS_SHORT, 4), (IS_SHORT, 2)), (), IS_SHORT, 2)

    def test_a_second_probe_that_matters_after_one_answer_alone(self):
        # After i is found to be less than 5 nothing else is asked, so the way of the greatest cost is the other one.
        goal = ('claim', ((0, 1), 8, False))
        probes = ((('claim', ((0, 1), 5, True)), 1), (('claim', ((0, 1), 8, False)), 7))
        self.check(FOUR, probes, (), goal, 7)
        self.check(FOUR, probes, ((0, True),), goal, 0)
        self.check(FOUR, probes, ((0, False),), goal, 7)

    def test_with_answers_seen(self):
        for seen, right in (
            (((0, (1, 1)),), 2), (((0, (2,)),), 0), (((1, (1, 1)),), 1), (((1, (2,)),), 1), (((2, (2,)),), 2),
            (((2, (1, 1)),), 0), (((0, (1, 1)), (2, (2,))), 1), (((1, (2,)), (0, (1, 1))), 0),
            (((1, (1, 1)), (0, (2,))), 0), (((0, (1, 1)), (2, (2,)), (1, (2,))), 0),
        ):
            self.check(FOUR, PRINTS, seen, FOURS, right)

    def test_without_an_agreeing_font(self):
        for knowledge in EMPTY:
            for goal in (
                TWO_LINES, ('lines', TEXT, 1, 1), ('lines', 'mm', 1, 1), ('layout', TEXT, 9), ('layout', 'mm', 1),
                ('claim', ((0, 1, 0), 5, False)),
            ):
                self.check(knowledge, SHOWN, (), goal, 0)

    def test_one_word(self):
        self.check(TINY, SHOWN, (), ('layout', 'im', 1), 0)
        self.assertEqual(find_tree(TINY, SHOWN, (), ('layout', 'im', 1), 0), ('known', (1,), {}))
        self.assertEqual(find_tree(TINY, SHOWN, (), ('lines', 'im', 1, 1), 5), ('lines', (1,), (None,)))

    def test_arbitrary_goals(self):
        source = random.Random(3)
        costs = []
        for _ in range(100):
            letters = source.choice(('a', 'im', 'abc'))
            costs.append(self.check(*random_search(source, letters, 3)))
        self.assertGreater(sum(cost not in (None, 0) for cost in costs), 10)
        self.assertGreater(costs.count(None), 10)
        self.assertGreater(costs.count(0), 10)

    def test_dicts_are_new_also_those_within_others(self):
        for case in ((FOUR, PRINTS, (), FOURS), (TRADE, SHOWN, (), TWO_LINES), (FOUR, CLAIMS, (), IS_FIVE)):
            right = copy.deepcopy(find_tree(*case, 9))
            found = find_tree(*case, 9)
            self.check_dicts([found, right])
            for item in dicts_within(found):
                item.clear()
                item['x'] = None
            self.assertEqual(find_tree(*case, 9), right)


class TreeCostTest(SearchingCase):
    def agree(self, case, values):
        """Check that values are trees, of the right cost, just if the document says so; return how many are."""
        many = 0
        for value in values:
            before = copy.deepcopy(value)
            right = slow_tree_cost(*case, value)
            found = tree_cost(*case, value)
            self.assertEqual((found, type(found)), (right, type(right)), (case, value))
            self.assertEqual(value, before)
            many += right is not None
        return many

    def test_examples(self):
        leaf = ('known', True, {False: (0, 1, 0, 0, 0, 1)})
        self.assertEqual(tree_cost(FOUR, PRINTS, (), IS_NARROW, leaf), 0)

    def test_the_cost_is_the_greatest_sum_on_a_way(self):
        # Asking 1 and then 0 or 2, with other prices.
        tree = find_tree(FOUR, PRINTS, (), FOURS, 2)
        self.assertEqual(tree[1], 1)
        for prices, right in (((1, 1, 1), 2), ((5, 2, 3), 7), ((3, 2, 5), 7), ((9, 4, 1), 13), ((1, 9, 9), 18)):
            self.assertEqual(tree_cost(FOUR, priced(*prices), (), FOURS, tree), right)

    def test_trees_that_ask_more_than_they_must(self):
        leaf = ('known', True, {False: (0, 1, 0, 0, 0, 1)})

        def known_after(many):
            return 'known', True, {False: (0,) + (0,) * many + (1, 0, 0, 0, 1)}

        one = ('ask', 1, {(1, 1): known_after(1), (2,): known_after(1)})
        self.assertEqual(tree_cost(FOUR, priced(2, 3, 4), (), IS_NARROW, leaf), 0)
        self.assertEqual(tree_cost(FOUR, priced(2, 3, 4), (), IS_NARROW, one), 3)
        two = ('ask', 2, {(1, 1): known_after(2), (2,): known_after(2)})
        mixed = ('ask', 1, {(1, 1): two, (2,): known_after(1)})
        self.assertEqual(tree_cost(FOUR, priced(2, 3, 4), (), IS_NARROW, mixed), 7)
        three = ('ask', 0, {(1, 1): known_after(3), (2,): known_after(3)})
        deep = ('ask', 1, {(1, 1): known_after(1), (2,): ('ask', 2, {(1, 1): known_after(2), (2,): three})})
        self.assertEqual(tree_cost(FOUR, priced(2, 3, 4), (), IS_NARROW, deep), 9)

    def test_branches_missing_or_too_many(self):
        for case in ((FOUR, PRINTS, (), FOURS), (TRADE, SHOWN, (), TWO_LINES), (FOUR, CLAIMS, (), IS_FIVE)):
            tree = find_tree(*case, 9)
            _, k, branches = tree
            self.assertIsNotNone(tree_cost(*case, tree))
            for answer in branches:
                less = {other: branches[other] for other in branches if other != answer}
                self.assertIsNone(tree_cost(*case, ('ask', k, less)))
                for key in (None, 'x', (3,), (1, 1, 1), 7, -1, ()):
                    self.assertIsNone(tree_cost(*case, ('ask', k, {**less, key: branches[answer]})))
            for key in (None, 'x', (3,), (1, 1, 1), 7, -1, ()):
                self.assertIsNone(tree_cost(*case, ('ask', k, {**branches, key: branches[answer]})))
            for value in ({}, None, (), [], tuple(branches.values()), list(branches.items()), tuple(branches.items())):
                self.assertIsNone(tree_cost(*case, ('ask', k, value)))

    def test_keys_that_are_equal_but_of_another_kind(self):
        case = (FOUR, ((IS_SHORT, 1),), (), IS_SHORT)
        branches = find_tree(*case, 1)[2]
        self.assertEqual(tree_cost(*case, ('ask', 0, branches)), 1)
        for keys in ((0, 1), (0, True), (False, 1)):
            changed = dict(zip(keys, (branches[False], branches[True])))
            self.assertEqual(changed, branches)
            self.assertIsNone(tree_cost(*case, ('ask', 0, changed)), keys)
        case = (FOUR, PRINTS[:1], ((0, (2,)),), IS_SHORT)
        refutations = find_tree(*case, 0)[2]
        self.assertEqual(tree_cost(*case, ('known', True, {False: refutations[False]})), 0)
        self.assertIsNone(tree_cost(*case, ('known', True, {0: refutations[False]})))
        self.assertIsNone(tree_cost(*case, ('known', 1, {False: refutations[False]})))
        case = (FOUR, PRINTS[:1], ((0, (2,)),), ('layout', 'i i', 7))
        refutations = find_tree(*case, 0)[2]
        self.assertEqual(tree_cost(*case, ('known', (2,), {(1, 1): refutations[1, 1]})), 0)
        for key in ((True, True), (True, 1), (1, True)):
            self.assertIsNone(tree_cost(*case, ('known', (2,), {key: refutations[1, 1]})))
        case = (TRADE, SHOWN, (), TWO_LINES)
        branches = find_tree(*case, 1)[2]
        for key in ((True, True), (True, 1)):
            self.assertIsNone(tree_cost(*case, ('ask', 0, {key: branches[1, 1], (2,): branches[2,]})))

    def test_indices_that_are_none(self):
        case = (FOUR, PRINTS, (), FOURS)
        branches = find_tree(*case, 2)[2]
        for other in (0, 2, 3, -1, -2, True, None, '1', (1,), 10 ** 59, [1], {}):
            self.assertIsNone(tree_cost(*case, ('ask', other, branches)), other)
        case = (FOUR, ((IS_SHORT, 1), (IS_SHORT, 2)), (), IS_SHORT)
        tree = find_tree(*case, 1)
        self.assertEqual(tree_cost(*case, tree), 1)
        self.assertIsNone(tree_cost(*case, ('ask', False, tree[2])))
        for other in (True, 2, -1):
            self.assertIsNone(tree_cost(*case, ('ask', other, tree[2])))

    def test_a_probe_that_is_seen_or_asked_twice(self):
        leaf = ('known', True, {False: (0, 0, 1, 0, 0, 0, 1)})
        case = (FOUR, PRINTS, ((1, (2,)),), IS_NARROW)
        self.assertEqual(tree_cost(*case, leaf), 0)
        self.assertIsNone(tree_cost(*case, ('ask', 1, {(1, 1): leaf, (2,): leaf})))
        longer = ('known', True, {False: (0, 0, 0, 1, 0, 0, 0, 1)})
        once = ('ask', 2, {(1, 1): longer, (2,): longer})
        self.assertEqual(tree_cost(*case, once), 1)
        twice = ('ask', 2, {(1, 1): longer, (2,): once})
        self.assertIsNone(tree_cost(*case, twice))
        self.assertIsNone(tree_cost(*case, ('ask', 2, {(1, 1): once, (2,): once})))

    def test_leaves_of_questions(self):
        case = (FOUR, PRINTS, ((0, (2,)),), FOURS)
        _, answer, refutations = find_tree(*case, 0)
        self.assertEqual((answer, len(refutations)), ((4,), 7))
        for other in refutations:
            less = {key: refutations[key] for key in refutations if key != other}
            self.assertIsNone(tree_cost(*case, ('known', answer, less)))
            self.assertIsNone(tree_cost(*case, ('known', other, refutations)))
            self.assertIsNone(tree_cost(*case, ('known', other, {**less, answer: refutations[other]})))
            self.assertIsNone(tree_cost(*case, ('known', answer, {**less, other: None})))
            self.assertIsNone(tree_cost(*case, ('known', answer, {**less, other: (0,) * len(refutations[other])})))
        self.assertIsNone(tree_cost(*case, ('known', answer, {**refutations, answer: refutations[other]})))
        for kind in ('lines', 'ask', 'Known', '', None, True):
            self.assertIsNone(tree_cost(*case, (kind, answer, refutations)))

    def test_a_question_that_is_not_known(self):
        case = (FOUR, PRINTS, (), IS_SHORT)
        right = find_tree(FOUR, PRINTS, ((0, (2,)),), IS_SHORT, 0)
        self.assertEqual(self.agree(case, [right, *variants(right)]), 0)

    def test_any_answer_without_an_agreeing_font(self):
        case = (FOUR, PRINTS, ((0, (2,)), (1, (1, 1))), IS_SHORT)
        contradiction = {True: (0, 1, 1, 0, 0, 0, 0, 0), False: (0, 4, 3, 0, 2, 0, 0, 0)}
        for answer in (False, True):
            leaf = ('known', answer, {not answer: contradiction[not answer]})
            self.assertEqual(tree_cost(*case, leaf), slow_tree_cost(*case, leaf))
        case = (EMPTY[0], (), (), ('claim', ((0, 1, 0), 3, False)))
        for answer in (False, True):
            self.assertEqual(tree_cost(*case, ('known', answer, {not answer: (1, 1, 0, 0, 0, 0, 0, 0, 0)})), 0)
        case = (EMPTY[0], (), (), ('layout', 'i m', 3))
        for answer, other in (((1, 1), (2,)), ((2,), (1, 1))):
            self.assertEqual(tree_cost(*case, ('known', answer, {other: (1, 1, 0, 0, 0, 0, 0, 0, 0)})), 0)
        self.assertIsNone(tree_cost(*case, ('known', (1,), {other: (1, 1, 0, 0, 0, 0, 0, 0, 0)})))

    def test_leaves_of_lines(self):
        case = (TRADE, SHOWN, ((0, (2,)),), TWO_LINES)
        kind, layout, showing = find_tree(*case, 0)
        self.assertEqual((kind, layout), ('lines', (3, 1)))
        self.assertEqual(tree_cost(*case, ('lines', (3, 1), showing)), 0)
        three = ('lines', (2, 1, 1), (find_tree(*case[:3], ('lines', 'ii i', 20, 1), 0)[2][0], None, None))
        four = ('lines', (1, 1, 1, 1), (None,) * 4)
        for n in range(1, 6):
            for leaf, lines in ((('lines', (3, 1), showing), 2), (three, 3), (four, 4)):
                right = 0 if n >= lines else None
                self.assertEqual(tree_cost(*case[:3], ('lines', TEXT, 20, n), leaf), right, (n, leaf))
        for layout in ((1, 3), (2, 2), (4,), (3,), (3, 1, 0), (0, 3, 1), (True, 3), [3, 1], (2, 1), (3, 2), None, ()):
            self.assertIsNone(tree_cost(*case, ('lines', layout, showing)), layout)
        for other in (None, (), showing[:1], showing + (None,), (None, None), showing[::-1], list(showing)):
            self.assertIsNone(tree_cost(*case, ('lines', (3, 1), other)), other)
        for kind in ('known', 'ask', 'line', None):
            self.assertIsNone(tree_cost(*case, (kind, (3, 1), showing)))

    def test_a_leaf_for_another_goal(self):
        lines = find_tree(TRADE, SHOWN, ((0, (2,)),), TWO_LINES, 0)
        layout = find_tree(TRADE, SHOWN, ((0, (2,)),), ('layout', 'i i i', 15), 0)
        self.assertIsNone(tree_cost(TRADE, SHOWN, ((0, (2,)),), ('layout', 'i i i', 15), lines))
        self.assertIsNone(tree_cost(TRADE, SHOWN, ((0, (2,)),), TWO_LINES, layout))
        self.assertIsNone(tree_cost(TRADE, SHOWN, ((0, (1, 1)),), TWO_LINES, lines))
        self.assertIsNone(tree_cost(TRADE, SHOWN, (), TWO_LINES, lines))

    def test_small_changes(self):
        trees = 0
        for case, d in (
            ((FOUR, PRINTS[:1], ((0, (2,)),), IS_SHORT), 0), ((TRADE, SHOWN, (), TWO_LINES), 1),
            ((FOUR, CLAIMS, (), IS_FIVE), 9), ((FOUR, ((IS_SHORT, 1),), (), IS_SHORT), 1),
            ((FOUR, PRINTS, ((1, (2,)),), ('layout', 'i i i', 12)), 0), ((EMPTY[0], (), (), ('layout', 'i m', 1)), 0),
            ((FOUR, (PRINTS[0], (IS_SHORT, 2)), (), ('claim', ((0, 1), 3, False))), 9),
            ((TINY, SHOWN, (), ('layout', 'im', 1)), 0),
        ):
            tree = find_tree(*case, d)
            trees += self.agree(case, [tree, *variants(tree)])
        self.assertGreater(trees, 30)

    def test_any_other_value(self):
        for case in (
            (FOUR, PRINTS, (), IS_NARROW), (TRADE, SHOWN, (), TWO_LINES), (FOUR, (), (), IS_NARROW),
            (TINY, (), (), ('layout', 'im', 1)), (TINY, (), (), ('lines', 'im', 1, 1)), (EMPTY[0], (), (), TWO_LINES),
        ):
            self.agree(case, ODD_VALUES)
            for kind in ('ask', 'known', 'lines'):
                self.agree(case, [(kind, value, {}) for value in ODD_VALUES])
                self.agree(case, [(kind, 0, value) for value in ODD_VALUES])
                self.agree(case, [(kind, True, value) for value in ODD_VALUES])
                self.agree(case, [(kind, (1,), value) for value in ODD_VALUES])
                self.agree(case, [(kind, 0, {False: value, True: value}) for value in ODD_VALUES])
                self.agree(case, [(kind, True, {False: value}) for value in ODD_VALUES])


class ArgumentsTest(unittest.TestCase):
    def test_arguments_do_not_change_and_results_are_equal(self):
        cases = [
            (FOUR, PRINTS, (), FOURS), (FOUR, PRINTS, ((1, (2,)), (0, (1, 1))), FOURS), (TRADE, SHOWN, (), TWO_LINES),
            (FOUR, PRINTS, (), IS_SHORT), (known('im', 1, 2, 3), SHOWN, (), TWO_LINES),
        ]
        before = copy.deepcopy(cases)

        def found(case):
            trees = [find_tree(*case, d) for d in range(4)]
            return has_reached(*case), least_cost(*case), trees, [tree_cost(*case, tree) for tree in trees]

        first = [found(case) for case in cases]
        for case, right in reversed(list(zip(cases, first))):
            self.assertEqual(found(copy.deepcopy(case)), right)
        self.assertEqual(cases, before)

    def test_a_claim_costs_as_much_as_its_opposite(self):
        for probes in (PRINTS, CLAIMS, PRINTS[:2]):
            for bound in range(2, 8):
                claim = ((0, 1), bound, False)
                costs = [least_cost(FOUR, probes, (), ('claim', either)) for either in (claim, opposite(claim))]
                self.assertEqual(costs[0], costs[1])


if __name__ == '__main__':
    unittest.main()

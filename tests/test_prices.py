"""Point [23]: the price of not knowing, sure savings, and the lines that a budget leads to."""

import copy
import random
import unittest

from anyfont.fewest import fewest_lines
from anyfont.prices import lines_after, price_of, sure_saving
from anyfont.probing import find_agreeing, possible_answers
from anyfont.trees import find_tree, least_cost
from agreeing import orders, slow_answers
from samples import FIXED, FOUR, PRINTS, SHOWN, TINY, TRADE, known
from searching import SearchingCase, budgets, random_related, random_trade

TEXT = 'ii i m mm'


def priced(*prices):
    return tuple((question, price) for (question, _), price in zip(PRINTS, prices))


def random_priced(source):
    """Return a knowledge, probes, SEEN with which a font agrees, a text and a measure."""
    if source.random() < 0.5:
        return random_trade(source)
    while True:
        knowledge, probes, seen, goal = random_related(source, source.choice(('a', 'im', 'abc')))
        if goal[0] != 'claim' and find_agreeing(knowledge, probes, seen) is not None:
            return knowledge, probes, seen, goal[1], goal[2]


class PricesCase(SearchingCase):
    def slow_fewest(self, knowledge, probes, seen, text, measure):
        return min(len(layout) for layout in self.standing(knowledge, probes, seen, text, measure))

    def slow_lines_after(self, knowledge, probes, seen, text, measure, d):
        """Return the fewest lines that the best next probe leads to, or no probe, whatever is answered."""
        found = [self.slow_fewest(knowledge, probes, seen, text, measure)]
        for k, (question, price) in enumerate(probes):
            if k not in dict(seen) and price <= d:
                found.append(max(
                    self.slow_lines_after(knowledge, probes, seen + ((k, answer),), text, measure, d - price)
                    for answer in slow_answers(question)
                ))
        return min(found)

    def same(self, call, case, *more):
        """Return what a call returns, an integer, and the same for other orders of SEEN."""
        knowledge, probes, seen, text, measure = case
        found = call(*case, *more)
        self.assertIs(type(found), int)
        for other in orders(seen):
            self.assertEqual(call(knowledge, probes, other, text, measure, *more), found, (case, more))
        return found

    def check_lines(self, case, d):
        found = self.same(lines_after, case, d)
        self.assertEqual(found, self.slow_lines_after(*case, d), (case, d))
        return found

    def check_price(self, case, right=None):
        knowledge, probes, seen, text, measure = case
        layouts = self.right_answers(knowledge, probes, seen, ('layout', text, measure))
        found = self.same(price_of, case)
        self.assertEqual(found, self.slow_fewest(*case) - max(len(layout) for layout in layouts), case)
        self.assertGreaterEqual(found, 0, case)
        if len(layouts) == 1:
            self.assertEqual(found, 0, case)
        if right is not None:
            self.assertEqual(found, right, case)
        return found

    def check_saving(self, case, k, right=None):
        knowledge, probes, seen, text, measure = case
        savings = [
            self.slow_fewest(*case) - self.slow_fewest(knowledge, probes, seen + ((k, answer),), text, measure)
            for answer in self.right_answers(knowledge, probes, seen, probes[k][0])
        ]
        found = self.same(sure_saving, case, k)
        self.assertEqual(found, min(savings), (case, k))
        self.assertGreaterEqual(found, 0, case)
        if right is not None:
            self.assertEqual(found, right, (case, k))
        return found


class LinesAfterTest(PricesCase):
    def test_examples(self):
        for d, right in ((0, 3), (1, 2), (5, 2)):
            self.assertEqual(self.check_lines((TRADE, SHOWN, (), TEXT, 20), d), right)

    def test_budgets_at_and_just_below_a_price(self):
        for price in (1, 2, 9):
            case = (TRADE, ((SHOWN[0][0], price),), (), TEXT, 20)
            for d in range(12):
                self.assertEqual(self.check_lines(case, d), 2 if d >= price else 3, (price, d))

    def test_budgets_at_and_just_below_the_sums_of_prices(self):
        for text, measure in (('i i i', 12), ('i i i i', 12), ('i ii', 9), ('ii i ii', 18)):
            for prices in ((2, 3, 4), (1, 9, 1), (5, 1, 2)):
                case = (FOUR, priced(*prices), (), text, measure)
                found = [self.check_lines(case, d) for d in budgets(case[1])]
                self.assertEqual(found, sorted(found, reverse=True))

    def test_two_claims(self):
        probes = ((('claim', ((0, 1, 0), 4, False)), 2), (('claim', ((0, 0, 1), 4, False)), 3))
        for text in ('ii m', 'i mm i', 'ii i m mm', 'i ii m mm'):
            for measure in (14, 16, 20, 24):
                for d in range(7):
                    self.check_lines((TRADE, probes, (), text, measure), d)

    def test_one_word(self):
        for case in ((TRADE, SHOWN, (), 'mmmm', 1), (FOUR, PRINTS, ((1, (2,)),), 'i', 9), (TINY, (), (), 'im', 1)):
            for d in (0, 1, 2, 100):
                self.assertEqual(self.check_lines(case, d), 1)

    def test_no_probe_and_no_further_probe(self):
        for d in (0, 1, 100):
            self.assertEqual(self.check_lines((TRADE, (), (), TEXT, 20), d), 3)
            self.assertEqual(self.check_lines((TRADE, SHOWN, ((0, (2,)),), TEXT, 20), d), 2)
            self.assertEqual(self.check_lines((FIXED, (), (), 'i m i m', 6), d), 2)
            self.assertEqual(self.check_lines((TINY, SHOWN, (), 'i m i m', 1), d), 4)

    def test_against_trees(self):
        source = random.Random(1)
        savings = 0
        for _ in range(40):
            knowledge, probes, seen, text, measure = case = random_priced(source)
            costs = [least_cost(knowledge, probes, seen, ('lines', text, measure, n)) for n in range(1, 6)]
            for d in budgets(probes):
                found = self.check_lines(case, d)
                for n, cost in enumerate(costs, 1):
                    self.assertEqual(cost is not None and cost <= d, n >= found, (case, d))
                    tree = find_tree(knowledge, probes, seen, ('lines', text, measure, n), d)
                    self.assertEqual(tree is not None, n >= found, (case, d))
            self.assertEqual(lines_after(*case, 0), fewest_lines(*case))
            savings += lines_after(*case, 99) < fewest_lines(*case)
        self.assertGreater(savings, 1)


class PriceOfTest(PricesCase):
    def test_examples(self):
        self.check_price((TRADE, SHOWN, (), TEXT, 20), 1)
        self.check_price((TRADE, SHOWN, ((0, (2,)),), TEXT, 20), 0)

    def test_one_word(self):
        for case in ((TRADE, SHOWN, (), 'mmmm', 1), (FOUR, PRINTS, ((1, (2,)),), 'i', 9), (TINY, (), (), 'im', 1)):
            self.check_price(case, 0)

    def test_a_layout_that_is_known(self):
        for text in ('i m i m', 'm m', 'im', 'i i i'):
            for measure in (1, 4, 5, 6, 9, 13, 99):
                self.check_price((FIXED, (), (), text, measure), 0)
        for seen in (((0, (2,)),), ((2, (1, 1)),), ((1, (2,)), (0, (1, 1))), ((1, (1, 1)), (2, (2,)))):
            self.check_price((FOUR, PRINTS, seen, 'i i i i', 12), 0)

    def test_layouts_that_are_not_known(self):
        self.check_price((FOUR, PRINTS, (), 'i i i i', 12), 0)
        self.check_price((FOUR, PRINTS, ((1, (2,)),), 'i i i i', 12), 0)
        self.check_price((TRADE, SHOWN, ((0, (1, 1)),), TEXT, 20), 0)

    def test_it_is_the_greatest_number_of_lines_of_a_font_that_counts(self):
        for text in (TEXT, 'i ii m mm', 'iii m i mmm', 'ii m ii m', 'i m'):
            for measure in (5, 9, 10, 11, 15, 20, 21, 25, 29, 30, 31):
                self.check_price((TRADE, SHOWN, (), text, measure))

    def test_arbitrary_texts(self):
        source = random.Random(2)
        found = [self.check_price(random_priced(source)) for _ in range(150)]
        self.assertGreater(sum(found), 1)


class SureSavingTest(PricesCase):
    def test_examples(self):
        self.check_saving((TRADE, SHOWN, (), TEXT, 20), 0, 1)

    def test_one_word(self):
        self.check_saving((TRADE, SHOWN, (), 'mmmm', 1), 0, 0)
        for k in range(3):
            self.check_saving((FOUR, PRINTS, (), 'i', 9), k, 0)

    def test_only_answers_that_agreeing_fonts_have(self):
        # An m is wider than 9, so that the probe has one answer alone.
        knowledge = ('im', TRADE[1] + (((0, 0, -1), -9, True),))
        self.check_saving((knowledge, SHOWN, (), TEXT, 20), 0, 0)
        # The other answer is not possible, and with it there would be one line.
        probes = ((('claim', ((0, 1), 4, False)), 1),)
        self.check_saving((('i', (((1, 0), 0, False), ((0, -1), -5, False))), probes, (), 'i i', 10), 0, 0)
        self.check_saving((('i', (((1, 0), 0, False), ((0, 1), 4, False))), probes, (), 'i i i', 8), 0, 0)
        # Answers that no font has leave one line, and those that fonts have leave two or more.
        for k in range(3):
            for seen in ((), ((0, (2,)),), ((0, (1, 1)),), ((1, (1, 1)),), ((1, (2,)),), ((2, (1, 1)),), ((2, (2,)),)):
                if k not in dict(seen):
                    self.check_saving((FOUR, PRINTS, seen, 'i i i i', 12), k)

    def test_the_least_of_all_savings(self):
        # If i is at most 4 there is one line less, and otherwise none.
        probes = ((('claim', ((0, 1), 4, False)), 1), (('layout', 'i i i i i', 12), 9))
        self.check_saving((FOUR, probes, (), 'i i i', 12), 0, 0)
        self.check_saving((FOUR, probes, (), 'i i i', 12), 1, 0)
        self.check_saving((TRADE, ((('claim', ((0, 1, 0), 5, False)), 1),), (), TEXT, 20), 0, 1)
        self.check_saving((TRADE, ((('claim', ((0, 1, 0), 9, False)), 1),), (), TEXT, 20), 0, 0)

    def test_with_other_probes_seen(self):
        probes = SHOWN + ((('claim', ((0, 1, 0), 5, False)), 3),)
        for answer, other in (((2,), True), ((1, 1), False)):
            self.check_saving((TRADE, probes, ((0, answer),), TEXT, 20), 1, 0)
            self.check_saving((TRADE, probes, ((1, other),), TEXT, 20), 0, 0)
        self.check_saving((TRADE, probes, (), TEXT, 20), 1, 1)
        for seen in orders(((0, (1, 1)), (2, (2,)))):
            self.check_saving((FOUR, PRINTS, seen, 'i i i i', 16), 1)

    def test_arbitrary_texts(self):
        source = random.Random(3)
        found = []
        for _ in range(150):
            case = random_priced(source)
            for k in range(len(case[1])):
                if k not in dict(case[2]):
                    found.append(self.check_saving(case, k))
                    before = fewest_lines(*case)
                    after = [fewest_lines(*case[:2], case[2] + ((k, answer),), *case[3:]) for answer in (
                        possible_answers(*case[:3], case[1][k][0]))]
                    self.assertEqual(found[-1], before - max(after))
        self.assertGreater(sum(found), 3)


class ArgumentsTest(unittest.TestCase):
    def test_arguments_do_not_change_and_results_are_equal(self):
        cases = [
            (TRADE, SHOWN, (), TEXT, 20), (FOUR, PRINTS, ((1, (2,)),), 'i i i i', 12),
            (known('im', 1, 2, 3), SHOWN, (), TEXT, 7),
        ]
        before = copy.deepcopy(cases)

        def found(case):
            return price_of(*case), sure_saving(*case, 0), [lines_after(*case, d) for d in range(4)]

        first = [found(case) for case in cases]
        for case, right in reversed(list(zip(cases, first))):
            self.assertEqual(found(copy.deepcopy(case)), right)
        self.assertEqual(cases, before)


if __name__ == '__main__':
    unittest.main()

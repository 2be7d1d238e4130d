"""A test case that searches for trees over all orders of probes, and random goals."""

import itertools

from agreeing import AgreeingCase, orders, random_agreeing, random_question, random_seen, slow_answers
from samples import random_text
from slow import random_condition
from slowchecks import slow_is_book, slow_is_leaf, slow_tree_cost

from anyfont.trees import find_book, find_tree, has_reached, is_book, least_cost, tree_cost


def random_goal(source, letters):
    if source.random() < 0.4:
        return random_question(source, letters, source.choice((2, 2, 4, 8)))
    text = random_text(source, letters, source.randint(2, 4), 3)
    return 'lines', text, source.randint(1, 10 * len(text)), source.choice((1, 2, 2, 3))


def random_search(source, letters, facts):
    """Return a knowledge, probes, SEEN and a goal; mostly the probes help to reach the goal."""
    if source.random() < 0.7:
        return random_related(source, letters)
    knowledge, probes, seen = random_agreeing(source, letters, facts)
    if source.random() < 0.2:
        return knowledge, probes, random_seen(source, probes), random_goal(source, letters)
    return knowledge, probes, seen[:source.randint(0, len(seen))], random_goal(source, letters)


def random_related(source, letters):
    """Return a knowledge, probes, SEEN and a goal, where the probes tell which lines of one text fit."""
    many = len(letters) + 1
    facts = [((1,) + (0,) * (many - 1), source.choice((0, 0, 1)), False)]
    facts += [random_condition(source, many, (0,) + (6,) * (many - 1)) for _ in range(source.choice((0, 0, 1)))]
    text = random_text(source, letters, source.choice((2, 3, 3, 4)), 2)
    words = text.split(' ')
    measure = source.randint(2, 12) * source.randint(2, len(words))
    pairs = list(itertools.combinations(range(len(words)), 2))
    questions = []
    for first, last in source.sample(pairs, min(len(pairs), source.choice((1, 2, 2, 3, 3, 3)))):
        line = ' '.join(words[first:last + 1])
        counts = tuple(line.count(sign) for sign in ' ' + letters)
        questions.append(('layout', line, measure) if last == first + 1 else ('claim', (counts, measure, False)))
    probes = tuple((question, source.choice((1, 1, 2, 3, 9))) for question in questions)
    goal = source.choice((
        ('layout', text, measure), ('lines', text, measure, 1), ('lines', text, measure, 2), source.choice(questions),
    ))
    return (letters, tuple(facts)), probes, random_seen(source, probes, source.choice((0, 0, 1))), goal


def random_trade(source):
    """Return a knowledge, probes, SEEN, a text and a measure, such that probes often save a line surely.

    What one letter gains in width the other one loses, so that no line is too wide for
    the fonts for which another one is.
    """
    both = source.randint(8, 14)
    facts = (((1, 0, 0), 0, False), ((0, 1, 1), both, False), ((0, -1, -1), -both, False))
    text = ' '.join(letter * source.choice((1, 1, 2)) for letter in source.choice(('iimm', 'mmii', 'imim', 'iim')))
    measure = source.choice((both, both + both // 2, 2 * both - 1, 2 * both, 2 * both + 1))
    questions = source.sample((
        ('layout', 'i i', both), ('layout', 'm m', both), ('claim', ((0, 1, 0), both // 2, False)),
        ('claim', ((0, 0, 1), both // 2, True)), ('claim', ((0, 1, -1), source.randint(-3, 3), False)),
    ), source.randint(1, 3))
    probes = tuple((question, source.randint(1, 4)) for question in questions)
    return ('im', facts), probes, random_seen(source, probes, source.choice((0, 0, 1))), text, measure


def dicts_within(value):
    """Return all dicts within a value, each as often as it is found."""
    found = []
    if isinstance(value, dict):
        found.append(value)
        value = list(value.items())
    if isinstance(value, (tuple, list)):
        for item in value:
            found += dicts_within(item)
    return found


def budgets(probes):
    """Return budgets just below and at each sum of prices, 0, and one beyond all."""
    found = {0, 99}
    prices = [price for _, price in probes]
    for many in range(1, len(prices) + 1):
        for chosen in itertools.combinations(prices, many):
            found |= {sum(chosen) - 1, sum(chosen)}
    return sorted(found)


class SearchingCase(AgreeingCase):
    def slow_reached(self, knowledge, probes, seen, goal):
        if goal[0] == 'lines':
            return any(len(layout) <= goal[3] for layout in self.standing(knowledge, probes, seen, *goal[1:3]))
        return len(self.right_answers(knowledge, probes, seen, goal)) <= 1

    def slow_cost(self, knowledge, probes, seen, goal, known=None):
        """Return the least cost of a tree, found by asking all probes in all orders."""
        known = {} if known is None else known
        place = tuple(sorted(seen))
        if place not in known:
            known[place] = self.slow_reached(knowledge, probes, seen, goal)
        if known[place]:
            return 0
        found = []
        for k, (question, price) in enumerate(probes):
            if k not in dict(seen):
                after = [seen + ((k, answer),) for answer in slow_answers(question)]
                costs = [self.slow_cost(knowledge, probes, more, goal, known) for more in after]
                if None not in costs:
                    found.append(price + max(costs))
        return min(found, default=None)

    def check(self, knowledge, probes, seen, goal, right=False):
        """Check what is found for a goal, with all budgets that matter; return the least cost."""
        case = (knowledge, probes, seen, goal)
        cost = self.slow_cost(*case)
        if right is not False:
            self.assertEqual(cost, right, case)
        self.assertEqual(least_cost(*case), cost, case)
        self.assertIs(type(least_cost(*case)), type(cost), case)
        self.assertIs(has_reached(*case), cost == 0, case)
        for other in orders(seen):
            same = (knowledge, probes, other, goal)
            self.assertEqual((least_cost(*same), has_reached(*same)), (cost, cost == 0), case)
        for d in budgets(probes):
            self.check_budget(case, d, cost is not None and cost <= d)
        return cost

    def check_budget(self, case, d, has_tree):
        knowledge, probes, seen, goal = case
        tree, book = find_tree(*case, d), find_book(*case, d)
        self.assertEqual([tree is not None, book is None], [has_tree, has_tree], (case, d))
        if has_tree:
            self.check_tree(case, d, tree)
        else:
            self.assertTrue(slow_is_book(*case, d, book), (case, d, book))
            self.assertIs(is_book(*case, d, book), True, (case, d, book))
        self.check_dicts([tree, book, find_tree(*case, d), find_book(*case, d)])
        for other in orders(seen):
            same = (knowledge, probes, other, goal)
            self.assertEqual((find_tree(*same, d), find_book(*same, d)), (tree, book), (case, d))

    def check_tree(self, case, d, tree):
        cost = slow_tree_cost(*case, tree)
        self.assertIsNotNone(cost, (case, d, tree))
        self.assertLessEqual(cost, d, (case, d, tree))
        self.assertEqual(tree_cost(*case, tree), cost, (case, d, tree))
        self.assertIs(type(tree_cost(*case, tree)), int)
        self.assertIs(tree[0] == 'ask', not slow_is_leaf(*case, tree), (case, d, tree))

    def check_dicts(self, values):
        """Check that no two dicts within values are one."""
        found = dicts_within(values)
        self.assertEqual(len({id(item) for item in found}), len(found), values)

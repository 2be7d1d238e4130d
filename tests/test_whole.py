"""Points [1] to [3] and section 4 as a whole: the functions of all stages agree with one another."""

import random
import unittest
from fractions import Fraction

from anyfont.claims import highest, is_possible, is_sure, opposite
from anyfont.comparing import never_wider
from anyfont.fewest import fewest_lines, find_bars, find_standing
from anyfont.knowledge import fits, is_knowledge
from anyfont.layouts import is_settled, layouts
from anyfont.measures import is_safe, safe_measure
from anyfont.numbers import line_numbers
from anyfont.prices import lines_after, price_of, sure_saving
from anyfont.probererrors import NoAgreement
from anyfont.proberlogs import is_prober_log, prober_log, resumed_prober
from anyfont.probers import Prober
from anyfont.probing import answer_of, answers, are_probes, find_agreeing, is_seen, possible_answers, seen_conditions
from anyfont.refutations import is_refutation
from anyfont.solving import find_font, find_refutation, has_font
from anyfont.standing import find_misfit, find_showing
from anyfont.texts import counts, lines, width
from anyfont.tops import find_cover, least_measure, top_of
from anyfont.trees import find_book, find_tree, has_reached, is_book, least_cost, tree_cost
from searching import budgets, random_search, random_trade
from slowlines import compositions


def random_case(source):
    """Return a knowledge, probes, SEEN and a goal."""
    if source.random() < 0.4:
        knowledge, probes, seen, text, measure = random_trade(source)
        return knowledge, probes, seen, source.choice((
            ('layout', text, measure), ('lines', text, measure, source.randint(1, 3)),
        ))
    return random_search(source, source.choice(('a', 'im', 'abc', 'abcd')), 3)


def random_agreeing_texts(source, many):
    """Return knowledges, probes and SEEN with which fonts agree, each with a text, and with a measure."""
    found = []
    while len(found) < many:
        knowledge, probes, seen, goal = random_case(source)
        if goal[0] != 'claim' and find_agreeing(knowledge, probes, seen) is not None:
            found.append((knowledge, probes, seen, *goal[1:3]))
    return found


def learnt(knowledge, probes, seen):
    """Return a knowledge with the conditions of SEEN as further facts."""
    letters, facts = knowledge
    return letters, facts + tuple(seen_conditions(letters, probes, seen))


class TreesAndBooksTest(unittest.TestCase):
    def test_exactly_one_of_a_tree_and_a_book(self):
        source = random.Random(1)
        trees = books = 0
        for _ in range(150):
            case = random_case(source)
            knowledge, probes, seen, _ = case
            self.assertTrue(is_knowledge(knowledge) and are_probes(knowledge[0], probes) and is_seen(probes, seen))
            cost = least_cost(*case)
            self.assertIs(has_reached(*case), cost == 0, case)
            for d in budgets(probes):
                tree, book = find_tree(*case, d), find_book(*case, d)
                self.assertIs(tree is None, book is not None, (case, d))
                self.assertIs(tree is not None, cost is not None and cost <= d, (case, d))
                if tree is None:
                    self.assertIsNone(tree_cost(*case, book), (case, d))
                    self.assertIs(is_book(*case, d, book), True, (case, d))
                    books += 1
                else:
                    self.assertIs(type(tree_cost(*case, tree)), int, (case, d))
                    self.assertLessEqual(tree_cost(*case, tree), d, (case, d))
                    self.assertIs(is_book(*case, d, tree), False, (case, d))
                    trees += cost > 0
        self.assertGreater(trees, 30)
        self.assertGreater(books, 100)

    def test_ways_through_trees_with_fonts(self):
        source = random.Random(2)
        asked = 0
        for _ in range(200):
            knowledge, probes, seen, _ = case = random_case(source)
            cost = least_cost(*case)
            if cost is not None:
                tree = find_tree(*case, cost)
                for answer in answers(probes[0][0]) if probes else (None,):
                    extra = ((0, answer),) if probes and 0 not in dict(seen) else ()
                    font = find_agreeing(knowledge, probes, seen + extra)
                    if font is not None:
                        asked += self.walk(case, tree, cost, font)
        self.assertGreater(asked, 40)

    def walk(self, case, tree, cost, font):
        """Ask as a tree says, with the answers of a font; return how many probes were asked."""
        knowledge, probes, seen, goal = case
        prober = Prober(knowledge, probes)
        for index, answer in seen:
            prober.see(index, answer)
        paid = 0
        while tree[0] == 'ask':
            self.assertIs(has_reached(knowledge, probes, prober.seen(), goal), False)
            question, price = probes[tree[1]]
            answer = answer_of(knowledge[0], question, font)
            prober.see(tree[1], answer)
            paid += price
            tree = tree[2][answer]
        self.assertLessEqual(paid, cost)
        self.assertIs(has_reached(knowledge, probes, prober.seen(), goal), True)
        self.check_end(prober, knowledge[0], goal, tree, font)
        log = prober_log(prober)
        self.assertIs(is_prober_log(knowledge, probes, log), True)
        self.assertTrue(resumed_prober(knowledge, probes, log) == prober)
        return len(prober) - len(seen)

    def check_end(self, prober, letters, goal, leaf, font):
        if goal[0] == 'lines':
            _, text, measure, n = goal
            self.assertLessEqual(prober.fewest(text, measure), n)
            words = text.split(' ')
            for many in leaf[1]:
                line, words = ' '.join(words[:many]), words[many:]
                self.assertTrue(many == 1 or Fraction(*width(letters, line, font)) <= measure)
            self.assertGreaterEqual(len(leaf[1]), len(lines(letters, text, measure, font)))
        else:
            self.assertEqual(leaf[1], answer_of(letters, goal, font))
            self.assertEqual(prober.answer_to(goal), leaf[1])

    def test_ways_through_books(self):
        source = random.Random(3)
        ends = 0
        for _ in range(100):
            knowledge, probes, seen, goal = case = random_case(source)
            for d in budgets(probes):
                book, left = find_book(*case, d), d
                prober = dict(seen)
                while isinstance(book, dict):
                    k = source.choice(sorted(book))
                    prober[k], book = book[k]
                    left -= probes[k][1]
                    self.assertGreaterEqual(left, 0)
                if book is not None:
                    now = tuple(prober.items())
                    self.assertIs(has_reached(knowledge, probes, now, goal), False)
                    self.assertIs(is_book(knowledge, probes, now, goal, left, book), True)
                    fonts = [bar[2] for bar in book] if goal[0] == 'lines' else book
                    for font in fonts:
                        self.assertTrue(fits(knowledge, font))
                        for k, answer in now:
                            self.assertEqual(answer_of(knowledge[0], probes[k][0], font), answer)
                    ends += 1
        self.assertGreater(ends, 100)


class StagesTest(unittest.TestCase):
    def test_what_is_seen_counts_as_facts_do(self):
        source = random.Random(4)
        for knowledge, probes, seen, text, measure in random_agreeing_texts(source, 100):
            known = learnt(knowledge, probes, seen)
            question = ('layout', text, measure)
            found = possible_answers(knowledge, probes, seen, question)
            self.assertEqual(found, layouts(known, text, measure))
            self.assertEqual(found, possible_answers(known, (), (), question))
            self.assertIs(has_reached(knowledge, probes, seen, question), is_settled(known, text, measure))
            for call in (fewest_lines, price_of):
                self.assertEqual(call(knowledge, probes, seen, text, measure), call(known, (), (), text, measure))
            for n in range(1, 5):
                self.assertEqual(
                    least_measure(knowledge, probes, seen, text, n), least_measure(known, (), (), text, n)
                )
            top = top_of(knowledge, probes, seen, text)
            self.assertEqual(top, highest(known, counts(knowledge[0], text))[:2])
            self.assertEqual(top, top_of(known, (), (), text))
            self.assertIsNotNone(find_cover(knowledge, probes, seen, text, top))
            fewest = fewest_lines(knowledge, probes, seen, text, measure)
            self.assertEqual(fewest, lines_after(known, (), (), text, measure, 9))

    def test_lines(self):
        source = random.Random(5)
        for case in random_agreeing_texts(source, 100):
            knowledge, probes, seen, text, measure = case
            known, many = learnt(knowledge, probes, seen), text.count(' ') + 1
            numbers, fewest = line_numbers(known, text, measure), fewest_lines(*case)
            self.assertTrue(max(numbers) <= fewest <= many)
            self.assertEqual(price_of(*case), fewest - max(numbers))
            self.assertEqual(lines_after(*case, 0), fewest)
            for n in range(many + 2):
                self.assertIs(find_standing(*case, n) is None, n < fewest)
                self.assertIs(find_bars(*case, n) is None, n >= fewest)
            for n in range(1, many + 2):
                least = Fraction(*least_measure(knowledge, probes, seen, text, n))
                safe = Fraction(*safe_measure(known, text, n))
                self.assertLessEqual(safe, least)
                self.assertIs(least <= measure, fewest <= n)
                self.assertIs(is_safe(known, text, n, (measure, 1)), max(numbers) <= n)
                self.assertIs(has_reached(knowledge, probes, seen, ('lines', text, measure, n)), fewest <= n)
            if many > 1:
                self.assertEqual(safe_measure(known, text, 1), least_measure(knowledge, probes, seen, text, 1))
                self.assertEqual(least_measure(knowledge, probes, seen, text, 1), top_of(knowledge, probes, seen, text))
            for layout in compositions(many):
                self.assertIs(find_showing(*case, layout) is None, find_misfit(*case, layout) is not None)

    def test_savings_are_those_of_budgets(self):
        source = random.Random(6)
        savings = 0
        for case in random_agreeing_texts(source, 80):
            _, probes, seen, _, _ = case
            for k, (_, price) in enumerate(probes):
                if k not in dict(seen):
                    saving = sure_saving(*case, k)
                    self.assertLessEqual(lines_after(*case, price), fewest_lines(*case) - saving)
                    self.assertGreaterEqual(saving, 0)
                    savings += saving
        self.assertGreater(savings, 3)

    def test_claims(self):
        source = random.Random(7)
        for knowledge, probes, seen, text, measure in random_agreeing_texts(source, 60):
            known = learnt(knowledge, probes, seen)
            claim = (counts(knowledge[0], text), measure, False)
            goal = ('claim', claim)
            self.assertIs(
                has_reached(knowledge, probes, seen, goal), is_sure(known, claim) or is_sure(known, opposite(claim))
            )
            self.assertEqual(
                possible_answers(knowledge, probes, seen, goal),
                [answer for answer in (False, True) if is_possible(known, claim if answer else opposite(claim))],
            )
            self.assertIs(is_sure(known, claim), Fraction(*top_of(knowledge, probes, seen, text)) <= measure)
            other = text[::-1].replace(' ', '')
            self.assertTrue(never_wider(known, other, text))

    def test_exactly_one_of_a_font_and_a_refutation(self):
        source = random.Random(8)
        fonts = 0
        for _ in range(200):
            knowledge, probes, seen, _ = random_case(source)
            conditions = seen_conditions(knowledge[0], probes, seen)
            font, refutation = find_agreeing(knowledge, probes, seen), find_refutation(knowledge, conditions)
            self.assertIs(font is None, refutation is not None)
            self.assertIs(is_refutation(knowledge, conditions, refutation), font is None)
            self.assertIs(find_font(knowledge, conditions) is None, font is None)
            self.assertIs(has_font(learnt(knowledge, probes, seen)), font is not None)
            fonts += font is not None
        self.assertTrue(100 < fonts < 200, fonts)

    def test_probers_agree_with_their_answers(self):
        source = random.Random(9)
        raised = 0
        for _ in range(250):
            knowledge, probes, seen, goal = random_case(source)
            if not has_font(knowledge):
                continue
            prober = Prober(knowledge, probes)
            try:
                for index, answer in seen:
                    prober.see(index, answer)
            except NoAgreement:
                self.assertIsNone(find_agreeing(knowledge, probes, seen))
                raised += 1
                continue
            self.assertEqual(prober.seen(), tuple(sorted(seen)))
            if goal[0] == 'lines':
                self.assertEqual(
                    prober.fewest(*goal[1:3]) <= goal[3], has_reached(knowledge, probes, seen, goal)
                )
            else:
                found = possible_answers(knowledge, probes, seen, goal)
                self.assertIs(prober.answer_to(goal) is not None, len(found) == 1)
                self.assertIs(has_reached(knowledge, probes, seen, goal), len(found) == 1)
        self.assertGreater(raised, 1)


class ResultsTest(unittest.TestCase):
    def test_equal_results_whatever_was_called_before(self):
        source = random.Random(10)
        cases = [random_case(source) for _ in range(20)]

        def found(case):
            return [(find_tree(*case, d), find_book(*case, d)) for d in budgets(case[1])]

        first = [found(case) for case in cases]
        for case, right in reversed(list(zip(cases, first))):
            self.assertEqual(found(case), right)


if __name__ == '__main__':
    unittest.main()

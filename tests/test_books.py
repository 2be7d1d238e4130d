"""Point [22]: books, which show that a goal is not reached within a budget."""

import copy
import random
import unittest

from anyfont.trees import find_book, find_tree, is_book, least_cost
from agreeing import orders
from samples import EMPTY, FIXED, FOUR, ODD_VALUES, PRINTS, SHOWN, TINY, TRADE
from searching import SearchingCase, dicts_within, random_search
from slowchecks import slow_is_book, variants

TEXT = 'ii i m mm'
FOURS = ('layout', 'i i i i', 12)
TWO_LINES = ('lines', TEXT, 20, 2)
IS_SHORT = ('claim', ((0, 1), 5, False))
WIDE_I, WIDE_M = (1, (0, 10, 0)), (1, (0, 0, 10))
THREE, FOUR_WIDE, FIVE, SEVEN = (1, (0, 3)), (1, (0, 4)), (1, (0, 5)), (1, (0, 7))
BOOK = {0: ((1, 1), (FOUR_WIDE, FIVE)), 1: ((2,), (THREE, FOUR_WIDE)), 2: ((2,), (THREE, FOUR_WIDE))}


def priced(*prices):
    return tuple((question, price) for (question, _), price in zip(PRINTS, prices))


class FindBookTest(SearchingCase):
    def test_examples(self):
        self.assertIsNone(find_book(FOUR, PRINTS, (), FOURS, 2))
        self.assertEqual(sorted(find_book(FOUR, PRINTS, (), FOURS, 1)), [0, 1, 2])
        self.assertIs(type(find_book(FOUR, PRINTS, (), FOURS, 0)), tuple)

    def test_budgets_at_and_just_below_each_price(self):
        # Asking 1 and then 0 or 2 takes 10; no other order takes less.
        probes = priced(2, 4, 6)
        for d, keys in (
            (2, [0]), (3, [0]), (4, [0, 1]), (5, [0, 1]), (6, [0, 1, 2]), (7, [0, 1, 2]), (9, [0, 1, 2]),
        ):
            self.assertEqual(sorted(find_book(FOUR, probes, (), FOURS, d)), keys)
        for d in (0, 1):
            self.assertIs(type(find_book(FOUR, probes, (), FOURS, d)), tuple)
        for d in (10, 11, 100):
            self.assertIsNone(find_book(FOUR, probes, (), FOURS, d))
        for d in range(12):
            self.check_budget((FOUR, probes, (), FOURS), d, d >= 10)

    def test_a_goal_that_no_budget_reaches(self):
        goal = ('lines', TEXT, 20, 1)
        for d in (0, 1, 2, 100):
            book = find_book(TRADE, SHOWN, (), goal, d)
            self.assertIs(type(book), dict if d else tuple)
            self.check_budget((TRADE, SHOWN, (), goal), d, False)
        for d in (0, 1, 2, 3, 100):
            self.check_budget((FOUR, PRINTS, (), ('layout', 'i i', 14)), d, False)

    def test_no_probe(self):
        for d in (0, 1, 100):
            book = find_book(FOUR, (), (), FOURS, d)
            self.assertIs(type(book), tuple)
            self.check_budget((FOUR, (), (), FOURS), d, False)
            self.check_budget((FIXED, (), (), ('layout', TEXT, 20)), d, True)

    def test_with_answers_seen(self):
        for seen in orders(((1, (2,)), (2, (2,)))):
            self.assertIsNone(find_book(FOUR, PRINTS, seen, IS_SHORT, 0))
            self.check_budget((FOUR, PRINTS, seen, ('claim', ((0, 1), 3, True))), 0, False)
            self.check_budget((FOUR, PRINTS, seen, ('claim', ((0, 1), 3, True))), 1, False)
            self.check_budget((FOUR, PRINTS, seen, FOURS), 0, False)
            self.check_budget((FOUR, PRINTS, seen, FOURS), 1, True)

    def test_lines(self):
        for n in (1, 2, 3):
            for text, measure in (('i i i i', 12), ('i ii i', 10), ('iii iii', 30)):
                self.check(FOUR, PRINTS, (), ('lines', text, measure, n))

    def test_without_an_agreeing_font(self):
        for knowledge in EMPTY:
            for goal in (TWO_LINES, ('layout', TEXT, 9)):
                for d in (0, 1, 100):
                    self.assertIsNone(find_book(knowledge, SHOWN, (), goal, d))

    def test_arbitrary_goals(self):
        source = random.Random(1)
        for _ in range(60):
            self.check(*random_search(source, source.choice(('a', 'im', 'abcd')), 3))

    def test_dicts_are_new_also_those_within_others(self):
        for case, d in (
            ((FOUR, priced(1, 2, 1), (), ('layout', 'i i', 14)), 9), ((TRADE, SHOWN, (), ('lines', TEXT, 20, 1)), 9),
        ):
            right = copy.deepcopy(find_book(*case, d))
            found = find_book(*case, d)
            self.assertGreater(len(dicts_within(found)), 0)
            self.check_dicts([found, right])
            for item in dicts_within(found):
                item.clear()
                item['x'] = None
            self.assertEqual(find_book(*case, d), right)


class IsBookTest(SearchingCase):
    def agree(self, case, d, values):
        """Check that values are books just if the document says so; return how many are."""
        many = 0
        for value in values:
            before = copy.deepcopy(value)
            right = slow_is_book(*case, d, value)
            self.assertIs(is_book(*case, d, value), right, (case, d, value))
            self.assertEqual(value, before)
            many += right
        return many

    def test_examples(self):
        self.assertIs(is_book(FOUR, PRINTS, (), FOURS, 1, BOOK), True)
        self.assertIs(is_book(FOUR, PRINTS, (), FOURS, 2, BOOK), False)

    def test_keys_missing_or_too_many(self):
        for k in BOOK:
            less = {other: BOOK[other] for other in BOOK if other != k}
            self.assertIs(is_book(FOUR, PRINTS, (), FOURS, 1, less), False)
            for key in (3, -1, None, 'x', (k,), str(k)):
                self.assertIs(is_book(FOUR, PRINTS, (), FOURS, 1, {**less, key: BOOK[k]}), False)
                self.assertIs(is_book(FOUR, PRINTS, (), FOURS, 1, {**BOOK, key: BOOK[k]}), False)
        for value in ({}, None, (), [], tuple(BOOK.items()), list(BOOK.items()), tuple(BOOK.values()), BOOK[0][1]):
            self.assertIs(is_book(FOUR, PRINTS, (), FOURS, 1, value), False)

    def test_keys_that_are_equal_but_of_another_kind(self):
        for keys in ((0, True, 2), (False, 1, 2), (False, True, 2)):
            value = dict(zip(keys, (BOOK[0], BOOK[1], BOOK[2])))
            self.assertEqual(value, BOOK)
            self.assertIs(is_book(FOUR, PRINTS, (), FOURS, 1, value), False, keys)

    def test_a_probe_that_the_budget_does_not_afford(self):
        for prices, keys in (((1, 1, 2), (0, 1)), ((2, 1, 1), (1, 2)), ((2, 1, 9), (1,)), ((1, 9, 9), (0,))):
            right = {k: BOOK[k] for k in keys}
            self.assertIs(is_book(FOUR, priced(*prices), (), FOURS, 1, right), True)
            self.assertIs(is_book(FOUR, priced(*prices), (), FOURS, 1, BOOK), False)
            self.assertIs(is_book(FOUR, priced(*prices), (), FOURS, 0, right), False)
        self.assertIs(is_book(FOUR, priced(2, 3, 4), (), FOURS, 1, (FOUR_WIDE, FIVE)), True)
        self.assertIs(is_book(FOUR, priced(2, 3, 4), (), FOURS, 1, {}), False)
        self.assertIs(is_book(FOUR, priced(2, 3, 4), (), FOURS, 2, (FOUR_WIDE, FIVE)), False)
        self.assertIs(is_book(FOUR, (), (), FOURS, 100, (FOUR_WIDE, FIVE)), True)
        self.assertIs(is_book(FOUR, (), (), FOURS, 100, {}), False)

    def test_the_budget_that_is_left(self):
        probes = priced(1, 2, 9)
        goal = ('layout', 'i i', 14)
        end = (SEVEN, (1, (0, 8)))
        wide = (1, 1)
        for d, value, right in (
            (0, end, True), (1, {0: (wide, end)}, True), (2, {0: (wide, end), 1: (wide, end)}, True),
            (2, {0: (wide, {1: (wide, end)}), 1: (wide, end)}, False),
            (3, {0: (wide, {1: (wide, end)}), 1: (wide, {0: (wide, end)})}, True),
            (3, {0: (wide, end), 1: (wide, {0: (wide, end)})}, False),
            (3, {0: (wide, {1: (wide, end)}), 1: (wide, end)}, False), (3, {0: (wide, end), 1: (wide, end)}, False),
            (8, {0: (wide, {1: (wide, end)}), 1: (wide, {0: (wide, end)})}, True),
            (9, {0: (wide, {1: (wide, end)}), 1: (wide, {0: (wide, end)})}, False),
            (9, {0: (wide, {1: (wide, end)}), 1: (wide, {0: (wide, end)}), 2: (wide, end)}, True),
            (10, {0: (wide, {1: (wide, end)}), 1: (wide, {0: (wide, end)}), 2: (wide, end)}, False),
            (10, {
                0: (wide, {1: (wide, end), 2: (wide, end)}), 1: (wide, {0: (wide, end)}), 2: (wide, {0: (wide, end)}),
            }, True),
        ):
            self.assertIs(is_book(FOUR, probes, (), goal, d, value), right, (d, value))

    def test_probes_that_are_seen(self):
        goal = ('layout', 'i i', 14)
        end = (SEVEN, (1, (0, 8)))
        for seen in orders(((0, (1, 1)), (2, (1, 1)))):
            self.assertIs(is_book(FOUR, PRINTS, seen, goal, 0, end), True)
            self.assertIs(is_book(FOUR, PRINTS, seen, goal, 1, {1: ((1, 1), end)}), True)
            self.assertIs(is_book(FOUR, PRINTS, seen, goal, 1, end), False)
            for k in (0, 2):
                self.assertIs(is_book(FOUR, PRINTS, seen, goal, 1, {1: ((1, 1), end), k: ((1, 1), end)}), False)
                self.assertIs(is_book(FOUR, PRINTS, seen, goal, 1, {k: ((1, 1), end)}), False)
            self.assertIs(is_book(FOUR, PRINTS, seen, goal, 1, {1: ((1, 1), {2: ((1, 1), end)})}), False)

    def test_answers(self):
        for answer in ((2,), (3,), (1,), (1, 1, 1), (True, 1), [1, 1], None, False, True, 0, '11', (1, 1, 0), ()):
            self.assertIs(is_book(FOUR, PRINTS, (), FOURS, 1, {**BOOK, 0: (answer, BOOK[0][1])}), False, answer)
        probes = ((('claim', ((0, 1), 3, False)), 1),)
        for answer, right in ((False, True), (0, False), (True, False), (1, False), (None, False), ((1, 1), False)):
            self.assertIs(is_book(FOUR, probes, (), FOURS, 1, {0: (answer, (FOUR_WIDE, FIVE))}), right, answer)
        for entry in (
            ((1, 1),), ((1, 1), BOOK[0][1], None), [(1, 1), BOOK[0][1]], (BOOK[0][1], (1, 1)), None, (), BOOK[0][1],
            ((1, 1), None), ((1, 1), ()), ((1, 1), {}), ((1, 1), list(BOOK[0][1])), {(1, 1): BOOK[0][1]},
        ):
            self.assertIs(is_book(FOUR, PRINTS, (), FOURS, 1, {**BOOK, 0: entry}), False, entry)

    def test_two_fonts(self):
        seen = ((0, (1, 1)),)
        for fonts, right in (
            ((FOUR_WIDE, FIVE), True), ((FIVE, FOUR_WIDE), True), ((FOUR_WIDE, SEVEN), True), ((FIVE, SEVEN), True),
            ((FIVE, (1, (0, 6))), False), ((FIVE, FIVE), False), ((SEVEN, (1, (0, 8))), False), ((THREE, FIVE), False),
            ((FIVE, THREE), False), ((THREE, THREE), False), ((FOUR_WIDE,), False), ((FOUR_WIDE, FIVE, SEVEN), False),
            ((), False), ([FOUR_WIDE, FIVE], False), ((FOUR_WIDE, None), False), ((FOUR_WIDE, (2, (0, 10))), False),
            ((FOUR_WIDE, (2, (0, 9))), True), ((FOUR_WIDE, (1, (1, 5))), False), ((FOUR_WIDE, (1, (0, 21))), False),
            ((FOUR_WIDE, [1, (0, 5)]), False), ((FOUR_WIDE, (1, [0, 5])), False), ((FOUR_WIDE, (True, (0, 5))), False),
            ((FOUR_WIDE, (1, (False, 5))), False), ((FOUR_WIDE, (1, (0, 5, 0))), False), ((1, (0, 4)), False),
        ):
            for probes, d in ((PRINTS, 0), (PRINTS[:1], 5)):
                self.assertIs(is_book(FOUR, probes, seen, FOURS, d, fonts), right, fonts)

    def test_two_fonts_for_a_claim(self):
        for fonts, right in (
            ((FIVE, (2, (0, 11))), True), ((FIVE, FOUR_WIDE), False), ((SEVEN, (2, (0, 11))), False),
            ((SEVEN, THREE), True), ((THREE, SEVEN), True), (False, False), (True, False), ((False, True), False),
        ):
            self.assertIs(is_book(FOUR, (), (), IS_SHORT, 0, fonts), right, fonts)

    def test_bars(self):
        bars = ((0, 1, WIDE_I), (1, 3, WIDE_M))
        for n in range(1, 5):
            for value in ((), bars[:1], bars[1:], bars, bars[::-1], bars + bars, list(bars), (bars[0], None)):
                right = value in ((), bars[:1], bars[1:], bars) and len(value) == n
                self.assertIs(is_book(TRADE, SHOWN, (), ('lines', TEXT, 20, n), 0, value), right, (n, value))
        for value in (
            {}, None, True, (WIDE_I, WIDE_M), (bars[0], (1, 3, WIDE_I)), ((0, 1, (1, (0, 5, 5))), bars[1]),
            ((0, 3, WIDE_I), bars[1]),
        ):
            self.assertIs(is_book(TRADE, SHOWN, (), TWO_LINES, 0, value), False, value)
        # With an answer seen one of the fonts does not agree.
        self.assertIs(is_book(TRADE, SHOWN, ((0, (2,)),), TWO_LINES, 0, bars), False)
        self.assertIs(is_book(TRADE, SHOWN, (), ('lines', TEXT, 20, 1), 1, {0: ((2,), bars[1:])}), True)
        self.assertIs(is_book(TRADE, SHOWN, (), ('lines', TEXT, 20, 1), 1, {0: ((1, 1), bars[:1])}), True)
        self.assertIs(is_book(TRADE, SHOWN, (), ('lines', TEXT, 20, 1), 1, {0: ((2,), bars[:1])}), False)
        self.assertIs(is_book(TRADE, SHOWN, (), ('lines', TEXT, 20, 1), 1, {0: ((1, 1), bars)}), False)

    def test_a_book_for_another_budget_or_goal(self):
        case = (FOUR, priced(2, 4, 6), (), FOURS)
        books = [find_book(*case, d) for d in range(10)]
        for d in range(12):
            for made, book in enumerate(books):
                self.assertIs(is_book(*case, d, book), slow_is_book(*case, d, book), (d, made))
        self.assertIs(is_book(*case, 10, books[9]), False)
        self.assertIs(is_book(*case[:3], TWO_LINES[:1] + ('i i', 9, 1), 0, books[0]), False)

    def test_a_tree_is_no_book(self):
        tree = find_tree(FOUR, PRINTS, (), FOURS, 2)
        for d in range(4):
            self.assertIs(is_book(FOUR, PRINTS, (), FOURS, d, tree), False)

    def test_no_book_where_the_goal_is_reached(self):
        case = (TRADE, SHOWN, ((0, (2,)),), TWO_LINES)
        self.assertEqual(least_cost(*case), 0)
        bars = ((0, 1, WIDE_I), (1, 3, WIDE_M))
        for d in (0, 1):
            self.assertEqual(self.agree(case, d, [bars, *variants(bars)]), 0)
        case = (EMPTY[0], (), (), TWO_LINES)
        self.assertEqual(self.agree(case, 0, [bars, (), {}]), 0)

    def test_small_changes(self):
        books = 0
        for case, d, book in (
            ((FOUR, PRINTS, (), FOURS), 1, BOOK), ((TRADE, SHOWN, (), TWO_LINES), 0, None),
            ((TRADE, SHOWN, (), ('lines', TEXT, 20, 1)), 1, None), ((FOUR, PRINTS, (), ('layout', 'i i', 14)), 2, None),
            ((FOUR, ((IS_SHORT, 1),), (), ('claim', ((0, 1), 6, False))), 1, None), ((FOUR, (), (), IS_SHORT), 3, None),
            ((TINY, ((('claim', ((0, 1, 0), 5, False)), 2),), (), ('layout', 'im im', 30)), 2, None),
        ):
            book = find_book(*case, d) if book is None else book
            books += self.agree(case, d, [book, *variants(book)])
        self.assertGreater(books, 30)

    def test_any_other_value(self):
        for case, d in (
            ((FOUR, PRINTS, (), FOURS), 0), ((FOUR, PRINTS, (), FOURS), 1), ((TRADE, SHOWN, (), TWO_LINES), 0),
            ((TRADE, SHOWN, (), TWO_LINES), 1), ((FOUR, (), (), IS_SHORT), 9),
        ):
            self.agree(case, d, ODD_VALUES)
            self.agree(case, d, [(value, value) for value in ODD_VALUES])
            self.agree(case, d, [{0: value} for value in ODD_VALUES])
            self.agree(case, d, [{0: ((1, 1), value)} for value in ODD_VALUES])
            self.agree(case, d, [{0: (value, (FOUR_WIDE, FIVE))} for value in ODD_VALUES])

    def test_arguments_do_not_change_and_results_are_equal(self):
        cases = [(FOUR, PRINTS, (), FOURS), (TRADE, SHOWN, (), TWO_LINES), (FOUR, PRINTS, ((1, (2,)),), IS_SHORT)]
        before = copy.deepcopy(cases)
        first = [[find_book(*case, d) for d in range(4)] for case in cases]
        for case, right in reversed(list(zip(cases, first))):
            self.assertEqual([find_book(*copy.deepcopy(case), d) for d in range(4)], right)
            self.assertEqual(
                [is_book(*case, d, book) for d, book in enumerate(right)], [book is not None for book in right]
            )
        self.assertEqual(cases, before)


if __name__ == '__main__':
    unittest.main()

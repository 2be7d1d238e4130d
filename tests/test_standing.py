"""Point [17]: layouts that stand, showings and misfits."""

import copy
import random
import unittest

from anyfont.standing import find_misfit, find_showing, is_showing
from agreeing import AgreeingCase, lines_of, orders, random_agreeing
from samples import EMPTY, FIXED, FOUR, NOTHING, ODD_VALUES, PRINTS, SHOWN, TINY, TRADE, known, random_text
from slowchecks import slow_is_agreeing, slow_is_showing, variants
from slowlines import compositions, slow_width

TEXT = 'ii i m mm'
MANY_LINES = (None, (1, 1, 0, 1, 0, 0, 0, 0, 0, 0), None)
CLAIMS = ((('claim', ((0, 1), 5, True)), 1), (('claim', ((0, 1), 5, False)), 2))


class StandingCase(AgreeingCase):
    def check(self, knowledge, probes, seen, text, measure, layout, right=None):
        """Check what is found for a layout; return whether it stands."""
        case = (knowledge, probes, seen, text, measure, layout)
        stands = layout in self.standing(*case[:5])
        if right is not None:
            self.assertIs(stands, right, case)
        showing, misfit = find_showing(*case), find_misfit(*case)
        self.assertEqual([showing is not None, misfit is None], [stands, stands], case)
        if stands:
            self.check_showing(case, showing)
        else:
            self.check_misfit(case, misfit)
        for other in orders(seen):
            self.assertEqual(find_showing(knowledge, probes, other, text, measure, layout), showing, case)
            self.assertEqual(find_misfit(knowledge, probes, other, text, measure, layout), misfit, case)
            if stands:
                self.assertIs(is_showing(knowledge, probes, other, text, measure, layout, showing), True, case)
        return stands

    def check_showing(self, case, showing):
        self.assertTrue(slow_is_showing(*case, showing), case)
        self.assertIs(is_showing(*case, showing), True, case)
        for line, entry in zip(lines_of(case[3], case[5]), showing):
            self.assertIs(type(entry), tuple if ' ' in line else type(None), case)

    def check_misfit(self, case, misfit):
        knowledge, probes, seen, text, measure, layout = case
        self.assertIs(type(misfit), tuple, case)
        index, font = misfit
        self.assertIs(type(index), int, case)
        self.assertIn(index, range(len(layout)), case)
        line = lines_of(text, layout)[index]
        self.assertIn(' ', line, case)
        self.assertTrue(slow_is_agreeing(knowledge, probes, seen, font), case)
        self.assertGreater(slow_width(knowledge[0], line, font), measure, case)

    def check_all(self, knowledge, probes, seen, text, measure):
        """Check all layouts of a text; return, ascending, those that stand."""
        layouts = compositions(text.count(' ') + 1)
        return [layout for layout in layouts if self.check(knowledge, probes, seen, text, measure, layout)]


class FindingTest(StandingCase):
    def test_examples(self):
        self.check(TRADE, SHOWN, (), TEXT, 20, (1, 2, 1), True)
        self.check(TRADE, SHOWN, (), TEXT, 20, (2, 2), False)
        self.check(FOUR, PRINTS, ((1, (2,)),), 'i i i', 12, (3,), True)

    def test_lines_of_one_word(self):
        for knowledge in (TINY, FIXED, NOTHING, *EMPTY):
            for text in ('i', 'mmmmmmmmm i', 'im mi i m', 'i m i m i m'):
                case = (knowledge, (), (), text, 1, (1,) * (text.count(' ') + 1))
                self.check(*case, True)
                self.assertEqual(find_showing(*case), (None,) * len(case[5]))

    def test_lines_of_several_words(self):
        self.assertEqual(self.check_all(TRADE, SHOWN, (), TEXT, 20), [(1, 1, 1, 1), (1, 2, 1)])
        self.assertEqual(self.check_all(TRADE, SHOWN, (), TEXT, 30), compositions(4))
        self.assertEqual(
            self.check_all(TRADE, SHOWN, ((0, (2,)),), TEXT, 20), [(1, 1, 1, 1), (1, 2, 1), (2, 1, 1), (3, 1)],
        )
        self.assertEqual(
            self.check_all(TRADE, SHOWN, ((0, (1, 1)),), TEXT, 20), [(1, 1, 1, 1), (1, 1, 2), (1, 2, 1), (1, 3)],
        )

    def test_each_line_counts(self):
        # Words of one width each, so that a line of two words is 3 to 13 wide.
        knowledge = known('abc', 1, 1, 3, 6)
        self.assertEqual(
            self.check_all(knowledge, (), (), 'a b c a', 8), [(1, 1, 1, 1), (1, 1, 2), (2, 1, 1), (2, 2)],
        )
        self.assertEqual(self.check_all(knowledge, (), (), 'c c a', 10), [(1, 1, 1), (1, 2)])
        self.assertEqual(self.check_all(knowledge, (), (), 'a c c', 10), [(1, 1, 1), (2, 1)])

    def test_a_line_that_just_fits_and_one_that_just_does_not(self):
        for measure, right in ((4, False), (5, True), (6, True)):
            self.check(FIXED, (), (), 'i i', measure, (2,), right)
        # After these answers i is at most 3, at most 4, at most 6, greater than 4 but at most 6.
        for seen, widest in (
            (((0, (2,)),), 3), (((1, (2,)),), 4), (((2, (2,)),), 6), (((1, (1, 1)), (2, (2,))), 6), ((), 20),
        ):
            self.check(FOUR, PRINTS, seen, 'i i i', 3 * widest, (3,), True)
            self.check(FOUR, PRINTS, seen, 'i i i', 3 * widest - 1, (3,), False)

    def test_strict_facts(self):
        for strict in (False, True):
            knowledge = ('i', (((1, 0), 0, False), ((0, 1), 5, strict)))
            self.check(knowledge, (), (), 'i i', 10, (2,), True)
            self.check(knowledge, (), (), 'i i', 9, (2,), False)
            # For an integer measure below the bound of the width, a strict fact is no better.
            self.check(('i', (((1, 0), 0, False), ((0, 2), 9, strict))), (), (), 'i i', 8, (2,), False)
            self.check(('i', (((1, 0), 0, False), ((0, 2), 9, strict))), (), (), 'i i', 9, (2,), True)
        below = ('i', (((1, 0), 0, False), ((0, -1), -5, True), ((0, 1), 5, False)))
        self.check(below, (), (), 'i i', 1, (2,), True)
        nothing = ('i', (((1, 0), 0, False), ((0, -1), -5, False), ((0, 1), 5, True)))
        self.check(nothing, (), (), 'i i', 1, (2,), True)

    def test_strict_conditions_of_seen(self):
        # The answers are that i is less than 5, at least 5, at most 5, greater than 5.
        self.check(FOUR, CLAIMS, ((0, True),), 'i i', 10, (2,), True)
        self.check(FOUR, CLAIMS, ((0, True),), 'i i', 9, (2,), False)
        self.check(FOUR, CLAIMS, ((1, True), (0, False)), 'i i', 10, (2,), True)
        self.check(FOUR, CLAIMS, ((1, True), (0, False)), 'i i', 9, (2,), False)
        self.check(FOUR, CLAIMS, ((0, True), (1, False)), 'i i', 1, (2,), True)
        self.check(FOUR, CLAIMS, ((1, False),), 'i i', 39, (2,), False)
        self.check(FOUR, CLAIMS, ((1, False),), 'i i', 40, (2,), True)

    def test_without_an_agreeing_font_each_layout_stands(self):
        for knowledge in EMPTY:
            self.assertEqual(self.check_all(knowledge, (), (), 'im mi mmm i', 1), compositions(4))
            self.assertEqual(self.check_all(knowledge, SHOWN, ((0, (2,)),), 'im mi i', 1), compositions(3))
        for seen in (((0, (2,)), (1, (1, 1))), ((1, (1, 1)), (0, (2,)), (2, (2,))), ((2, (1, 1)), (1, (2,)))):
            self.assertEqual(self.check_all(FOUR, PRINTS, seen, 'i iiiiiiiii i', 1), compositions(3))

    def test_six_words(self):
        self.check_all(TRADE, SHOWN, ((0, (2,)),), 'ii i m mm im i', 25)
        self.assertEqual(self.check_all(TINY, (), (), 'i i i i i i', 159)[-1], (5, 1))
        self.check(TINY, (), (), 'i i i i i i', 159, (6,), False)
        self.check(TINY, (), (), 'i i i i i i', 160, (6,), True)

    def test_arbitrary_layouts(self):
        source = random.Random(1)
        for index in range(120):
            letters = source.choice(('a', 'im', 'abc', 'abcd'))
            case = self.random_case(source, letters, 2) if index % 4 else random_agreeing(source, letters, 4)
            text = random_text(source, letters, source.randint(1, 4), 3)
            self.check_all(*case, text, source.randint(1, 12 * len(text)))


class IsShowingTest(StandingCase):
    def agree(self, case, values):
        """Check that values are showings just if the document says so; return how many are."""
        many = 0
        for value in values:
            before = copy.deepcopy(value)
            right = slow_is_showing(*case, value)
            self.assertIs(is_showing(*case, value), right, (case, value))
            self.assertEqual(value, before)
            many += right
        return many

    def test_examples(self):
        case = (TRADE, SHOWN, (), TEXT, 20, (1, 2, 1))
        self.assertIs(is_showing(*case, MANY_LINES), True)
        self.assertIs(is_showing(*case, (None, None, None)), False)

    def test_an_entry_too_few_or_too_many(self):
        case = (TRADE, SHOWN, (), TEXT, 20, (1, 2, 1))
        for value in (
            (), MANY_LINES[:2], MANY_LINES[1:], MANY_LINES + (None,), (None,) + MANY_LINES, MANY_LINES[1],
            MANY_LINES + MANY_LINES[1:2], MANY_LINES * 2, (MANY_LINES,),
        ):
            self.assertIs(is_showing(*case, value), False, value)

    def test_none_and_refutations(self):
        case = (TRADE, SHOWN, (), TEXT, 20, (1, 2, 1))
        shown = MANY_LINES[1]
        for value in (
            (shown, shown, None), (None, shown, shown), (shown, shown, shown), (shown, None, None), ((), shown, None),
            (False, shown, None), (None, shown, 0), (None, (), None), (None, False, None), ({}, shown, None),
        ):
            self.assertIs(is_showing(*case, value), False, value)

    def test_the_refutation_of_another_line(self):
        case = (known('im', 1, 2, 3), (), (), 'i i m m', 7, (2, 2))
        first, second = find_showing(*case)
        self.assertNotEqual(first, second)
        self.assertIs(is_showing(*case, (first, second)), True)
        self.assertIs(is_showing(*case, (second, first)), False)
        self.assertIs(is_showing(*case, (first, first)), False)

    def test_one_wrong_line_among_right_ones(self):
        case = (TRADE, SHOWN, (), 'i m i m i m', 10, (2, 2, 2))
        right = find_showing(*case)
        for place in range(3):
            for entry in (None, (0,) * 10, right[place][:-1], list(right[place])):
                self.assertIs(is_showing(*case, right[:place] + (entry,) + right[place + 1:]), False)

    def test_kinds(self):
        case = (TRADE, SHOWN, (), TEXT, 20, (1, 2, 1))
        for value in (
            list(MANY_LINES), (None, list(MANY_LINES[1]), None), (None, (True, 1, 0, 1, 0, 0, 0, 0, 0, 0), None),
            (None, (1, 1, False, 1, 0, 0, 0, 0, 0, 0), None), (None, (1, 1, None, 1, 0, 0, 0, 0, 0, 0), None),
            dict(enumerate(MANY_LINES)), [None, MANY_LINES[1], None], (None, '1101000000', None),
        ):
            self.assertIs(is_showing(*case, value), False, value)

    def test_the_row_of_the_line_stands_behind_seen(self):
        # i is at most 4: twice that and that i i is wider than 8; the rows are the fact, i i within 8, i i beyond 8.
        case = (FOUR, PRINTS, ((1, (2,)),), 'i i', 8, (2,))
        self.assertIs(is_showing(*case, ((0, 1, 1, 0, 0, 0, 0),)), True)
        # With a second answer, of a probe before it, its condition stands ahead.
        for seen in orders(((1, (2,)), (0, (1, 1)))):
            case = (FOUR, PRINTS, seen, 'i i', 8, (2,))
            self.assertIs(is_showing(*case, ((0, 0, 1, 1, 0, 0, 0, 0),)), True)
            self.assertIs(is_showing(*case, ((0, 1, 0, 1, 0, 0, 0, 0),)), False)

    def test_the_row_of_the_line_is_strict(self):
        case = (('i', (((1, 0), 0, False), ((0, 2), 6, False))), (), (), 'i i', 6, (2,))
        self.assertIs(is_showing(*case, ((1, 1, 1, 0, 0, 0, 0),)), True)
        self.assertIs(is_showing(*case[:4], 5, (2,), ((1, 1, 1, 0, 0, 0, 0),)), False)

    def test_small_changes(self):
        showings = 0
        for case in (
            (TRADE, SHOWN, (), TEXT, 20, (1, 2, 1)), (TRADE, SHOWN, ((0, (2,)),), TEXT, 20, (3, 1)),
            (FOUR, PRINTS, ((1, (2,)), (0, (1, 1))), 'i i i', 12, (3,)), (EMPTY[1], (), (), 'i m', 3, (2,)),
            (FOUR, CLAIMS, ((0, True), (1, False)), 'i i i', 1, (2, 1)), (FIXED, (), (), 'i i', 5, (1, 1)),
        ):
            found = find_showing(*case)
            showings += self.agree(case, [found, *variants(found)])
        self.assertGreater(showings, 6)

    def test_for_a_layout_that_does_not_stand(self):
        case = (TRADE, SHOWN, (), TEXT, 20, (2, 2))
        other = find_showing(TRADE, SHOWN, (), TEXT, 30, (2, 2))
        self.assertEqual(self.agree(case, [other, (None, None), (), *variants(other)]), 0)

    def test_any_other_value(self):
        cases = (
            (TRADE, SHOWN, (), TEXT, 20, (1, 2, 1)), (TRADE, SHOWN, (), TEXT, 20, (1, 1, 1, 1)),
            (FIXED, (), (), 'i', 5, (1,)), (FIXED, (), (), 'i i', 5, (2,)), (FIXED, (), (), 'i i', 5, (1, 1)),
        )
        for case in cases:
            self.agree(case, ODD_VALUES + tuple((value,) for value in ODD_VALUES))
        self.assertIs(is_showing(*cases[1], (None,) * 4), True)
        self.assertIs(is_showing(*cases[1], [None] * 4), False)
        self.assertIs(is_showing(*cases[4], (None, None)), True)
        self.assertIs(is_showing(*cases[4], (None, None, None)), False)


class ArgumentsTest(unittest.TestCase):
    def test_arguments_do_not_change_and_results_are_equal(self):
        cases = [
            (TRADE, SHOWN, (), TEXT, 20, (1, 2, 1)), (TRADE, SHOWN, (), TEXT, 20, (2, 2)),
            (FOUR, PRINTS, ((1, (2,)),), 'i i i', 12, (3,)), (FOUR, PRINTS, (), 'i i i', 12, (1, 2)),
        ]
        before = copy.deepcopy(cases)
        first = [(find_showing(*case), find_misfit(*case)) for case in cases]
        for case, found in reversed(list(zip(cases, first))):
            self.assertEqual((find_showing(*copy.deepcopy(case)), find_misfit(*case)), found)
        self.assertEqual(cases, before)


if __name__ == '__main__':
    unittest.main()

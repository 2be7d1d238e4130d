"""Points [15] and [16]: questions with their answers, probes, and what was seen of them."""

import copy
import itertools
import random
import unittest

from anyfont.knowledge import fits, holds, is_font
from anyfont.layouts import conditions_of
from anyfont.probing import (
    answer_conditions, answer_of, answers, are_probes, find_agreeing, is_question, is_seen, possible_answers,
    seen_conditions,
)
from agreeing import AgreeingCase
from samples import EMPTY, FIXED, FOUR, NOTHING, ODD_VALUES, PRINTS, TINY, known, random_text
from slow import random_condition, slow_has_font
from slowlines import compositions, slow_layout

CLAIM = ('claim', ((0, 1), 3, False))
LAYOUT = ('layout', 'i i i', 9)


def layout_question(words):
    return 'layout', ' '.join('i' * words), 9


class IsQuestionTest(unittest.TestCase):
    def test_claims(self):
        for condition in (((0, 0, 0), 0, False), ((99, -99, 1), 9999, True), ((-99, 0, 99), -9999, False)):
            self.assertIs(is_question('im', ('claim', condition)), True)
            self.assertIs(is_question('i', ('claim', condition)), False)
        for condition in (
            ((0, 0), 0, False), ((0, 0, 100), 0, False), ((0, 0, 0), 10000, False), ((0, 0, 0), 0, 0),
            ((0, 0, 0), 0, None), [(0, 0, 0), 0, False], ((0, 0, True), 0, False), None, True, 'claim',
        ):
            self.assertIs(is_question('im', ('claim', condition)), False)

    def test_layouts(self):
        for text, measure in (('i', 1), ('im', 999), ('i m im mi i m im mi', 30), (' '.join(['imimimimi'] * 8), 7)):
            self.assertIs(is_question('im', ('layout', text, measure)), True)
        self.assertIs(is_question('i', ('layout', 'im', 9)), False)
        for text in ('', ' ', 'i  m', ' i', 'i ', 'a', 'iiiiiiiiii', 'i i i i i i i i i', None, ('i',), ['i'], 7):
            self.assertIs(is_question('im', ('layout', text, 9)), False)
        for measure in (0, 1000, -1, True, None, '9', (9, 1), 10 ** 59):
            self.assertIs(is_question('im', ('layout', 'i m', measure)), False)

    def test_other_forms(self):
        condition = ((0, 0, 0), 0, False)
        for value in (
            ('layout', condition), ('claim', 'i m', 9), ('claim', condition, 9), ('layout', 'i m'), ('claim',),
            ('layout',), ('layout', 'i m', 9, 9), ('Claim', condition), ('claims', condition), ('lines', 'i m', 9),
            (None, condition), (True, 'i m', 9), (('claim',), condition), ['claim', condition], ['layout', 'i m', 9],
            condition, ('lines', 'i m', 9, 2), {'claim': condition}, 'claim', 'layout', (condition, 'claim'),
            ('i m', 'layout', 9),
        ) + ODD_VALUES:
            self.assertIs(is_question('im', value), False, value)


class AnswersTest(unittest.TestCase):
    def test_examples(self):
        self.assertEqual(answers(CLAIM), [False, True])
        self.assertEqual(answers(LAYOUT), [(1, 1, 1), (1, 2), (2, 1), (3,)])
        self.assertEqual(answer_of('i', LAYOUT, (1, (0, 4))), (2, 1))
        self.assertEqual(answer_conditions('i', CLAIM, False), [((0, -1), -3, True)])

    def test_answers_ascend_and_are_complete(self):
        self.assertEqual(answers(layout_question(1)), [(1,)])
        self.assertEqual(answers(layout_question(2)), [(1, 1), (2,)])
        for words in range(1, 9):
            found = answers(layout_question(words))
            self.assertEqual(len(found), 2 ** (words - 1))
            self.assertEqual(found, compositions(words))

    def test_kinds(self):
        self.assertTrue(all(type(answer) is bool for answer in answers(CLAIM)))
        self.assertTrue(all(type(answer) is tuple for answer in answers(LAYOUT)))
        self.assertIs(type(answer_of('i', CLAIM, (1, (0, 3)))), bool)
        self.assertIs(type(answer_of('i', LAYOUT, (1, (0, 3)))), tuple)

    def test_lists_are_new(self):
        for question in (CLAIM, LAYOUT):
            right = list(answers(question))
            answers(question).clear()
            self.assertEqual(answers(question), right)
            answer_conditions('i', question, right[0]).append(None)
            self.assertNotIn(None, answer_conditions('i', question, right[0]))

    def test_the_answer_of_a_claim(self):
        for width, right in ((2, True), (3, True), (4, False)):
            self.assertIs(answer_of('i', CLAIM, (1, (0, width))), right)
            self.assertIs(answer_of('i', ('claim', ((0, 1), 3, True)), (1, (0, width))), width < 3)
        self.assertIs(answer_of('i', CLAIM, (3, (0, 10))), False)

    def test_the_answer_of_a_text(self):
        text = 'i m i m i m i m'
        for measure, right in ((5, (1,) * 8), (6, (2,) * 4), (12, (3, 3, 2)), (26, (7, 1)), (27, (8,))):
            self.assertEqual(answer_of('im', ('layout', text, measure), (1, (1, 2, 3))), right)
        self.assertEqual(answer_of('im', ('layout', 'mmmm', 1), (1, (1, 2, 3))), (1,))

    def test_conditions(self):
        self.assertEqual(answer_conditions('i', CLAIM, True), [((0, 1), 3, False)])
        self.assertEqual(answer_conditions('im', ('claim', ((1, -2, 0), -3, True)), True), [((1, -2, 0), -3, True)])
        self.assertEqual(answer_conditions('im', ('claim', ((1, -2, 0), -3, True)), False), [((-1, 2, 0), 3, False)])
        self.assertEqual(answer_conditions('i', ('layout', 'i', 3), (1,)), [])
        text = 'i m im mi i m im mi'
        for answer in answers(('layout', text, 40)):
            self.assertEqual(
                answer_conditions('im', ('layout', text, 40), answer), conditions_of('im', text, 40, answer)
            )

    def test_a_font_has_an_answer_exactly_if_its_conditions_hold(self):
        source = random.Random(1)
        for _ in range(300):
            letters = source.choice(('a', 'im', 'abc', 'abcd'))
            unit = source.randint(1, 3)
            font = (unit, tuple(source.randint(0, 20 * unit) for _ in range(len(letters) + 1)))
            center = tuple(part // unit for part in font[1])
            question = source.choice((
                ('claim', random_condition(source, len(letters) + 1, center)),
                ('layout', random_text(source, letters, source.randint(1, 6), 3), source.randint(1, 90)),
            ))
            having = [
                answer for answer in answers(question)
                if all(holds(condition, font) for condition in answer_conditions(letters, question, answer))
            ]
            self.assertEqual(having, [answer_of(letters, question, font)], (question, font))
            if question[0] == 'layout':
                self.assertEqual(having, [slow_layout(letters, question[1], question[2], font)])


class AreProbesTest(unittest.TestCase):
    def test_no_probe_to_four(self):
        for many in range(4):
            self.assertIs(are_probes('i', ((CLAIM, 1),) * many), True)
        self.assertIs(are_probes('i', ((CLAIM, 1),) * 4), False)
        self.assertIs(are_probes('i', ((('layout', 'i', 9), 1),) * 3), True)
        self.assertIs(are_probes('i', ((('layout', 'i', 9), 1),) * 4), False)
        self.assertIs(are_probes('i', PRINTS), True)

    def test_prices(self):
        for price in (1, 2, 8, 9):
            self.assertIs(are_probes('i', ((CLAIM, price),)), True)
            self.assertIs(are_probes('i', ((CLAIM, 9), (LAYOUT, price))), True)
        for price in (0, 10, -1, True, False, None, '1', (1,), 10 ** 59):
            self.assertIs(are_probes('i', ((CLAIM, price),)), False)
            self.assertIs(are_probes('i', ((CLAIM, 9), (LAYOUT, price))), False)

    def test_the_product_of_the_numbers_of_answers(self):
        # Each plus 1, these are 2, 3, 5, 9, 17 and 33 for one to six words.
        many = {words: 2 ** (words - 1) + 1 for words in range(1, 9)}
        for size in range(4):
            for all_words in itertools.product(many, repeat=size):
                product = 1
                for words in all_words:
                    product *= many[words]
                value = tuple((layout_question(words), 1) for words in all_words)
                self.assertIs(are_probes('i', value), product <= 30, all_words)
        self.assertIs(are_probes('i', tuple((layout_question(words), 1) for words in (1, 2, 3))), True)
        self.assertIs(are_probes('i', ((CLAIM, 1), (layout_question(3), 1), (layout_question(1), 1))), True)
        self.assertIs(are_probes('i', ((CLAIM, 1), (layout_question(3), 1), (CLAIM, 1))), False)
        self.assertIs(are_probes('i', ((CLAIM, 1), (layout_question(4), 1))), True)
        self.assertIs(are_probes('i', ((CLAIM, 1), (layout_question(4), 1), (layout_question(1), 1))), False)
        self.assertIs(are_probes('i', ((layout_question(5), 1),)), True)
        self.assertIs(are_probes('i', ((layout_question(5), 1), (layout_question(1), 1))), False)
        self.assertIs(are_probes('i', ((layout_question(6), 1),)), False)

    def test_questions_are_for_the_letters(self):
        self.assertIs(are_probes('m', PRINTS), False)
        self.assertIs(are_probes('im', PRINTS), True)
        self.assertIs(are_probes('im', ((CLAIM, 1),)), False)
        self.assertIs(are_probes('i', ((CLAIM, 1), (('claim', ((0, 1, 0), 3, False)), 1))), False)

    def test_other_forms(self):
        for value in (
            [], [(CLAIM, 1)], ([CLAIM, 1],), (CLAIM, 1), CLAIM, ((CLAIM,),), ((CLAIM, 1, 1),), ((1, CLAIM),), (CLAIM,),
            ((CLAIM, 1), None), (None,), ((CLAIM, 1), ()), ((('claim', None), 1),), ((('layout', 'i  i', 9), 1),),
            ((('layout', 'i', 0), 1),), ((('lines', 'i', 9, 1), 1),), {(CLAIM, 1): None}, {},
        ) + tuple(value for value in ODD_VALUES if value != ()):
            self.assertIs(are_probes('i', value), False, value)


class IsSeenTest(unittest.TestCase):
    probes = ((CLAIM, 1), (LAYOUT, 2), (('layout', 'i', 3), 9))

    def test_seen(self):
        for seen in (
            (), ((0, False),), ((0, True),), ((1, (1, 1, 1)),), ((1, (3,)),), ((2, (1,)),),
            ((0, False), (1, (1, 2)), (2, (1,))),
        ):
            for other in itertools.permutations(seen):
                self.assertIs(is_seen(self.probes, other), True, other)
        self.assertIs(is_seen(PRINTS, ((1, (1, 1)), (0, (2,)))), True)
        self.assertIs(is_seen((), ()), True)

    def test_an_index_twice(self):
        self.assertIs(is_seen(PRINTS, ((0, (2,)), (0, (2,)))), False)
        self.assertIs(is_seen(PRINTS, ((0, (2,)), (0, (1, 1)))), False)
        self.assertIs(is_seen(PRINTS, ((0, (2,)), (1, (2,)), (0, (2,)))), False)
        self.assertIs(is_seen(self.probes, ((0, True), (0, False))), False)

    def test_an_index_that_is_none(self):
        for index in (-1, 3, 4, 10 ** 59, True, False, None, '0', (0,), [0], {0: 0}):
            for answer in ((2,), True, (1,)):
                self.assertIs(is_seen(PRINTS, ((index, answer),)), False)
                self.assertIs(is_seen(self.probes, ((2, (1,)), (index, answer))), False)
        self.assertIs(is_seen((), ((0, True),)), False)
        self.assertIs(is_seen(PRINTS[:2], ((2, (2,)),)), False)

    def test_an_answer_that_is_none(self):
        # 0 and 1 are no answers of a claim, and True is no number of words.
        for answer in (0, 1, None, 'True', (True,), (), (1,), -1, 2, [], [True], {}):
            self.assertIs(is_seen(self.probes, ((0, answer),)), False, answer)
        for answer in (
            (1, 1), (2, 2), (4,), (0, 3), (3, 0), (1, 1, 1, 0), (-1, 4), (True, 2), (2, True), (True, True, True), [3],
            [1, 2], (), 3, True, False, None, '3', ((3,),), (1, '2'), (1, None, 2), (1, (2,)), ((1, 2),), {1: 2},
            (10 ** 59, 3 - 10 ** 59), (0,) * 20000, (1,) * 20000,
        ):
            self.assertIs(is_seen(self.probes, ((1, answer),)), False, answer)
        for answer in ((True,), True, 1, (1, 0), (0, 1), (2,), ()):
            self.assertIs(is_seen(self.probes, ((2, answer),)), False, answer)
        # An answer of another probe.
        self.assertIs(is_seen(self.probes, ((0, (3,)), (1, True))), False)

    def test_other_forms(self):
        for value in (
            [], [(0, True)], ([0, True],), (0, True), ((0,),), ((0, True, True),), ((True, 0),), (None,), ((),),
            ((0, True), None), ((0, True), ()), {}, {0: True}, ((0, True), [1, (3,)]), 'ab', (((0, True),),),
        ) + tuple(value for value in ODD_VALUES if value != ()):
            self.assertIs(is_seen(self.probes, value), False, value)


class SeenConditionsTest(unittest.TestCase):
    def test_examples(self):
        self.assertEqual(
            seen_conditions('i', PRINTS, ((1, (1, 1)), (0, (2,)))),
            [((1, 2), 6, False), ((-1, -2), -8, True)],
        )

    def test_they_stand_in_ascending_order_of_the_index(self):
        probes = ((LAYOUT, 1), (CLAIM, 2), (('layout', 'i', 3), 9))
        right = [((1, 2), 9, False), ((-2, -3), -9, True), ((0, -1), -3, True)]
        for seen in itertools.permutations(((0, (2, 1)), (1, False), (2, (1,)))):
            self.assertEqual(seen_conditions('i', probes, seen), right)
        self.assertEqual(seen_conditions('i', probes, ((1, True), (0, (3,)))), [((2, 3), 9, False), ((0, 1), 3, False)])
        self.assertEqual(seen_conditions('i', probes, ((1, True),)), [((0, 1), 3, False)])

    def test_nothing_seen(self):
        for probes in ((), PRINTS):
            self.assertEqual(seen_conditions('i', probes, ()), [])
        self.assertEqual(seen_conditions('i', ((('layout', 'i', 3), 9),), ((0, (1,)),)), [])

    def test_lists_are_new(self):
        seen_conditions('i', PRINTS, ((0, (2,)),)).clear()
        self.assertEqual(seen_conditions('i', PRINTS, ((0, (2,)),)), [((1, 2), 6, False)])


class FindAgreeingTest(AgreeingCase):
    def check(self, knowledge, probes, seen, right=None):
        font = find_agreeing(knowledge, probes, seen)
        case = (knowledge, probes, seen)
        if font is None:
            self.assertIsNone(self.decide(knowledge, self.rows_of_seen(*case)), case)
        else:
            self.assertTrue(is_font(knowledge[0], font), case)
            self.assertTrue(fits(knowledge, font), case)
            for k, answer in seen:
                self.assertEqual(self.answer(knowledge[0], probes[k][0], font), answer, case)
        for other in itertools.permutations(seen):
            self.assertEqual(find_agreeing(knowledge, probes, other), font, case)
        if right is not None:
            self.assertEqual(font is not None, right, case)

    def test_examples(self):
        self.check(FOUR, PRINTS, ((1, (1, 1)), (0, (2,))), False)

    def test_a_font_that_agrees_and_none(self):
        self.check(FOUR, PRINTS, (), True)
        for seen, right in (
            (((0, (2,)), (1, (2,)), (2, (2,))), True), (((0, (1, 1)), (1, (2,)), (2, (2,))), True),
            (((0, (1, 1)), (1, (1, 1)), (2, (2,))), True), (((0, (1, 1)), (1, (1, 1)), (2, (1, 1))), True),
            (((0, (2,)), (1, (2,)), (2, (1, 1))), False), (((0, (2,)), (1, (1, 1)), (2, (2,))), False),
            (((0, (1, 1)), (1, (2,)), (2, (1, 1))), False), (((0, (2,)), (1, (1, 1)), (2, (1, 1))), False),
        ):
            self.check(FOUR, PRINTS, seen, right)

    def test_claims(self):
        probes = ((('claim', ((0, 1), 3, False)), 1), (('claim', ((0, -1), -3, False)), 1), (CLAIM, 3))
        self.check(FOUR, probes, ((0, True), (1, True)), True)
        self.check(FOUR, probes, ((0, False), (1, False)), False)
        self.check(FOUR, probes, ((0, False), (1, True)), True)
        self.check(FOUR, probes, ((0, True), (2, False)), False)
        self.check(FOUR, probes, ((0, True), (1, False), (2, True)), True)
        self.assertEqual(find_agreeing(FOUR, probes, ((1, True), (0, True))), (1, (0, 3)))

    def test_no_probes(self):
        for knowledge in (NOTHING, TINY, FIXED):
            self.check(knowledge, (), (), True)
        self.assertEqual(find_agreeing(FIXED, (), ()), (1, (1, 2, 3)))

    def test_without_a_fitting_font(self):
        probes = ((('layout', 'i m', 30), 1), (('claim', ((0, 1, 0), 3, False)), 2))
        for knowledge in EMPTY:
            for seen in ((), ((0, (2,)),), ((1, False), (0, (1, 1)))):
                self.check(knowledge, probes, seen, False)

    def test_arbitrary_probes(self):
        source = random.Random(2)
        for _ in range(200):
            case = self.random_case(source, source.choice(('a', 'im', 'abc', 'abcd')), source.randint(0, 4))
            self.assertIs(is_seen(*case[1:]), True)
            self.check(*case)


class PossibleAnswersTest(AgreeingCase):
    def check(self, knowledge, probes, seen, question, right=None):
        case = (knowledge, probes, seen, question)
        found = possible_answers(*case)
        self.assertIs(type(found), list)
        rows = self.rows_of_seen(knowledge, probes, seen)
        proved = []
        for answer in answers(question):
            more = self.rows_of_seen(knowledge, ((question, 1),), ((0, answer),))
            font = self.decide(knowledge, rows + more)
            if font is not None:
                self.assertEqual(self.answer(knowledge[0], question, font), answer, case)
                proved.append(answer)
        self.assertEqual(found, proved, case)
        self.assertEqual([type(answer) for answer in found], [type(answer) for answer in proved])
        for other in itertools.permutations(seen):
            self.assertEqual(possible_answers(knowledge, probes, other, question), found, case)
        if right is not None:
            self.assertEqual(found, right, case)

    def test_examples(self):
        question = ('layout', 'i i i i', 12)
        self.check(FOUR, PRINTS, (), question, [(1, 1, 1, 1), (2, 2), (3, 1), (4,)])
        self.check(FOUR, PRINTS, ((1, (2,)),), question, [(3, 1), (4,)])

    def test_claims(self):
        for seen, right in (
            ((), [False, True]), (((0, (2,)),), [True]), (((0, (1, 1)),), [False]), (((2, (2,)),), [False, True]),
            (((2, (1, 1)),), [False]), (((0, (2,)), (1, (1, 1))), []),
        ):
            self.check(FOUR, PRINTS, seen, CLAIM, right)

    def test_a_question_that_was_seen(self):
        for k, (question, _) in enumerate(PRINTS):
            for answer in answers(question):
                self.check(FOUR, PRINTS, ((k, answer),), question, [answer])

    def test_a_question_with_one_word(self):
        self.check(FOUR, PRINTS, (), ('layout', 'i', 1), [(1,)])
        self.check(FOUR, PRINTS, ((0, (2,)), (1, (1, 1))), ('layout', 'i', 1), [])

    def test_a_question_with_six_words(self):
        question = ('layout', 'i i i i i i', 12)
        self.check(FOUR, PRINTS, (), question, [(1,) * 6, (2, 2, 2), (3, 3), (4, 2), (5, 1), (6,)])
        self.check(FOUR, PRINTS, ((1, (2,)),), question, [(3, 3), (4, 2), (5, 1), (6,)])
        self.check(FOUR, PRINTS, ((0, (1, 1)), (1, (2,))), question, [(3, 3)])
        self.check(FOUR, PRINTS, ((2, (1, 1)),), question, [(1,) * 6])
        self.check(('im', ()), ((('layout', 'i m', 20), 5),), ((0, (1, 1)),), ('layout', 'i m mm i im m', 40))
        self.check(known('im', 1, 2, 3), (), (), ('layout', 'i m mm i im m', 12), [(2, 2, 2)])

    def test_without_a_fitting_font(self):
        for knowledge in EMPTY:
            for question in (('claim', ((0, 1, 0), 3, False)), ('layout', 'i m im', 30)):
                self.check(knowledge, (), (), question, [])

    def test_against_corners(self):
        source = random.Random(3)
        for _ in range(40):
            knowledge, probes, seen = self.random_case(source, 'a', source.randint(0, 2))
            question = source.choice((
                ('claim', random_condition(source, 2)),
                ('layout', random_text(source, 'a', source.randint(1, 3), 3), source.randint(1, 70)),
            ))
            rows = self.rows_of_seen(knowledge, probes, seen)
            right = [
                answer for answer in answers(question)
                if slow_has_font(knowledge, rows + self.rows_of_seen(knowledge, ((question, 1),), ((0, answer),)))
            ]
            self.check(knowledge, probes, seen, question, right)

    def test_arbitrary_questions(self):
        source = random.Random(4)
        for _ in range(150):
            letters = source.choice(('a', 'im', 'abc', 'abcd'))
            case = self.random_case(source, letters, source.randint(0, 4))
            self.check(*case, source.choice((
                ('claim', random_condition(source, len(letters) + 1)),
                ('layout', random_text(source, letters, source.randint(1, 5), 4), source.randint(1, 90)),
            )))


class ArgumentsTest(unittest.TestCase):
    def test_lists_are_new_and_arguments_do_not_change(self):
        seen, question = ((1, (2,)),), ('layout', 'i i i i', 12)
        before = copy.deepcopy((FOUR, PRINTS, seen, question))
        for _ in range(2):
            found = possible_answers(FOUR, PRINTS, seen, question)
            self.assertEqual(found, [(3, 1), (4,)])
            found.clear()
            found = possible_answers(FOUR, PRINTS, seen, CLAIM)
            self.assertEqual(found, [False, True])
            found.clear()
            self.assertEqual(find_agreeing(FOUR, PRINTS, seen), find_agreeing(*copy.deepcopy((FOUR, PRINTS, seen))))
        self.assertEqual((FOUR, PRINTS, seen, question), before)

    def test_any_value_is_not_modified(self):
        value = [('claim', [(0, 1), 3]), {'a': [1]}]
        before = copy.deepcopy(value)
        for call in (
            lambda: is_question('i', value), lambda: are_probes('i', value), lambda: is_seen(PRINTS, value),
            lambda: is_question('i', tuple(value)), lambda: are_probes('i', (value,)),
            lambda: is_seen(PRINTS, (value,)),
        ):
            self.assertIs(call(), False)
        self.assertEqual(value, before)

    def test_equal_results_whatever_was_called_before(self):
        seens = [(), ((0, (2,)),), ((1, (1, 1)),), ((2, (2,)), (0, (1, 1)))]
        first = [(find_agreeing(FOUR, PRINTS, seen), possible_answers(FOUR, PRINTS, seen, LAYOUT)) for seen in seens]
        for seen, right in reversed(list(zip(seens, first))):
            self.assertEqual(
                (find_agreeing(FOUR, PRINTS, seen), possible_answers(copy.deepcopy(FOUR), PRINTS, seen, LAYOUT)), right
            )


if __name__ == '__main__':
    unittest.main()

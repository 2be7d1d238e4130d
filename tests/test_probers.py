"""Points [2] and [24]: a prober, its errors, undo, and what follows from what is seen."""

import copy
import itertools
import random
import unittest

from anyfont.errors import InvalidIndex
from anyfont.fewest import fewest_lines
from anyfont.probererrors import AlreadySeen, InvalidAnswer, NoAgreement
from anyfont.probers import Prober
from agreeing import random_agreeing, random_question, slow_answers
from probing_states import ProberCase, everything_undone, prober_of, random_calls, random_prober, state
from samples import FIXED, FOUR, ODD_VALUES, PRINTS, SHOWN, TINY, TRADE, random_text
from slowchecks import slow_is_answer

FOURS = ('layout', 'i i i i', 12)
CLAIM = ('claim', ((0, 1), 5, True))
# A claim, a layout of three words, and a layout of one word.
MIXED = ((CLAIM, 2), (('layout', 'i i i', 9), 3), (('layout', 'ii', 7), 9))
WIDE, NARROW = (1, 1), (2,)


def is_index(value, many):
    return type(value) is int and 0 <= value < many


class ExampleTest(ProberCase):
    def test_example(self):
        prober = Prober(FOUR, PRINTS)
        self.assertEqual(
            [prober.see(1, (2,)), prober.answer_to(FOURS), prober.see(0, (1, 1)), prober.answer_to(FOURS),
             prober.seen()],
            [None, None, None, (3, 1), ((0, (1, 1)), (1, (2,)))],
        )
        self.assertEqual(
            [prober.unsee(1), prober.undo(), prober.undo(), prober.seen(), len(prober)],
            [None, ('unsee', 1, (2,)), ('see', 0, (1, 1)), ((1, (2,)),), 1],
        )
        self.raises(AlreadySeen, prober.see, 1, (1, 1), index=1)

    def test_a_new_prober(self):
        for knowledge, probes in ((FOUR, PRINTS), (FOUR, ()), (FOUR, MIXED), (FIXED, SHOWN)):
            prober = Prober(knowledge, probes)
            self.check_state(prober, knowledge, probes, {})
            self.assertIsNone(prober.undo())


class SeeTest(ProberCase):
    def test_all_answers_of_each_question(self):
        for probes in (PRINTS, MIXED, ((FOURS, 1),)):
            for index, (question, _) in enumerate(probes):
                for answer in slow_answers(question):
                    prober = Prober(FOUR, probes)
                    if answer in self.right_answers(FOUR, (), (), question):
                        self.assertIsNone(prober.see(index, answer))
                        self.check_state(prober, FOUR, probes, {index: answer})
                    else:
                        error = self.raises(NoAgreement, prober.see, index, answer)
                        self.check_refutation(error, FOUR, probes, ((index, answer),))
                        self.check_state(prober, FOUR, probes, {})

    def test_indices_that_are_none(self):
        for probes in ((), PRINTS[:1], PRINTS[:2], PRINTS, MIXED):
            prober = Prober(FOUR, probes)
            many = len(probes)
            for index in ODD_VALUES + (many, many + 1, -many, -many - 1, '0', (0,), [0], {0: 0}, 10 ** 59, -10 ** 59):
                if not is_index(index, many):
                    for answer in ((2,), True, None, (1,)):
                        self.raises(InvalidIndex, prober.see, index, answer, index=index)
            self.check_state(prober, FOUR, probes, {})
            self.assertIsNone(prober.undo())

    def test_a_probe_that_was_seen(self):
        prober = prober_of(FOUR, PRINTS, ((1, NARROW), (0, WIDE)))
        for index in (0, 1):
            for answer in (WIDE, NARROW, None, (3,), True):
                self.raises(AlreadySeen, prober.see, index, answer, index=index)
        prober.unsee(1)
        self.raises(AlreadySeen, prober.see, 0, WIDE, index=0)
        prober.see(1, NARROW)
        self.assertEqual(prober.seen(), ((0, WIDE), (1, NARROW)))

    def test_answers_that_are_none(self):
        prober = Prober(FOUR, MIXED)
        for index, answers in (
            (0, (0, 1, None, 'True', (True,), (), (1,), (3,), -1, [], {})),
            (1, (True, False, 3, (1, 1), (2,), (4,), (1, 1, 1, 1), (0, 3), (3, 0), (True, 2), (2, True), [3], [1, 2],
                 (), None, '3', ((3,),), (-1, 4), {1: 2}, (1, None), (1, (2,)))),
            (2, (True, 1, (True,), (1, 1), (2,), (0, 1), (), [1], None)),
        ):
            for answer in answers:
                self.raises(InvalidAnswer, prober.see, index, answer, answer=answer)
        for value in ODD_VALUES:
            for index in range(3):
                if not slow_is_answer(MIXED[index][0], value):
                    self.raises(InvalidAnswer, prober.see, index, value, answer=value)
        self.check_state(prober, FOUR, MIXED, {})
        self.assertIsNone(prober.undo())
        self.assert_equal(prober, Prober(FOUR, MIXED), True)

    def test_no_agreement(self):
        for seen, index, answer in (
            (((1, NARROW),), 2, WIDE), (((0, NARROW),), 1, WIDE), (((2, WIDE),), 0, NARROW), (((1, WIDE),), 0, NARROW),
            (((2, NARROW), (0, NARROW)), 1, WIDE), (((2, WIDE), (1, WIDE)), 0, NARROW), (((2, WIDE),), 1, NARROW),
        ):
            prober = prober_of(FOUR, PRINTS, seen)
            error = self.raises(NoAgreement, prober.see, index, answer)
            self.check_refutation(error, FOUR, PRINTS, seen + ((index, answer),))
            self.check_state(prober, FOUR, PRINTS, dict(seen))
            prober.see(index, WIDE if answer == NARROW else NARROW)

    def test_no_agreement_with_what_is_known_alone(self):
        prober = Prober(FIXED, SHOWN)
        error = self.raises(NoAgreement, prober.see, 0, WIDE)
        self.check_refutation(error, FIXED, SHOWN, ((0, WIDE),))
        prober.see(0, NARROW)
        self.check_state(prober, FIXED, SHOWN, {0: NARROW})

    def test_strict_conditions(self):
        probes = ((CLAIM, 1), (('claim', ((0, -1), -5, False)), 1))
        prober = prober_of(FOUR, probes, ((0, True),))
        error = self.raises(NoAgreement, prober.see, 1, True)
        self.check_refutation(error, FOUR, probes, ((0, True), (1, True)))
        prober.see(1, False)
        prober = prober_of(FOUR, probes, ((1, True),))
        error = self.raises(NoAgreement, prober.see, 0, True)
        self.check_refutation(error, FOUR, probes, ((0, True), (1, True)))

    def test_the_order_of_the_errors(self):
        prober = prober_of(FOUR, PRINTS, ((1, NARROW),))
        for answer in (None, WIDE, NARROW, (3,)):
            for index in (3, -1, True, False, None, [1]):
                self.raises(InvalidIndex, prober.see, index, answer, index=index)
            self.raises(AlreadySeen, prober.see, 1, answer, index=1)
        for answer in (None, (3,), (True, True), True, [1, 1], (1, 1, 1)):
            self.raises(InvalidAnswer, prober.see, 2, answer, answer=answer)
        self.raises(NoAgreement, prober.see, 2, WIDE)
        self.check_state(prober, FOUR, PRINTS, {1: NARROW})


class UnseeTest(ProberCase):
    def test_it_forgets(self):
        for seen in itertools.permutations(((0, WIDE), (1, WIDE), (2, NARROW))):
            for index in range(3):
                prober = prober_of(FOUR, PRINTS, seen)
                self.assertIsNone(prober.unsee(index))
                self.check_state(prober, FOUR, PRINTS, {k: answer for k, answer in seen if k != index})

    def test_what_was_not_seen(self):
        prober = prober_of(FOUR, PRINTS, ((1, NARROW),))
        for index in ODD_VALUES + (0, 2, 3, -1, -2, True, False, None, '1', (1,), [1], {1: 1}, 10 ** 59):
            if not (type(index) is int and index == 1):
                self.raises(InvalidIndex, prober.unsee, index, index=index)
        self.check_state(prober, FOUR, PRINTS, {1: NARROW})
        prober.unsee(1)
        self.raises(InvalidIndex, prober.unsee, 1, index=1)
        self.assertEqual([prober.undo(), prober.undo(), prober.undo()], [('unsee', 1, (2,)), ('see', 1, (2,)), None])
        for probes in ((), PRINTS):
            for index in (0, 1, -1, 3):
                self.raises(InvalidIndex, Prober(FOUR, probes).unsee, index, index=index)

    def test_another_answer_after_it(self):
        prober = prober_of(FOUR, PRINTS, ((1, NARROW),))
        prober.unsee(1)
        prober.see(1, WIDE)
        self.check_state(prober, FOUR, PRINTS, {1: WIDE})
        self.raises(NoAgreement, prober.see, 0, NARROW)


class UndoTest(ProberCase):
    def test_from_the_last_call_to_the_first(self):
        prober = Prober(FOUR, PRINTS)
        states = [state(prober)]
        for call, *arguments in (
            ('see', 1, NARROW), ('see', 0, WIDE), ('unsee', 1), ('see', 2, NARROW), ('unsee', 0), ('see', 1, WIDE),
            ('unsee', 2), ('unsee', 1),
        ):
            self.assertIsNone(getattr(prober, call)(*arguments))
            states.append(state(prober))
        told = everything_undone(prober)
        self.assertEqual([call for call, _ in told], [
            ('unsee', 1, WIDE), ('unsee', 2, NARROW), ('see', 1, WIDE), ('unsee', 0, WIDE), ('see', 2, NARROW),
            ('unsee', 1, NARROW), ('see', 0, WIDE), ('see', 1, NARROW), None,
        ])
        self.assertEqual([after for _, after in told], states[-2::-1] + states[:1])
        self.assertEqual([prober.undo(), prober.undo()], [None, None])

    def test_the_answers_of_claims_stay_bools(self):
        for answer in (False, True):
            prober = prober_of(FOUR, MIXED, ((0, answer),))
            self.assertIs(prober.seen()[0][1], answer)
            prober.unsee(0)
            call = prober.undo()
            self.assertEqual(call, ('unsee', 0, answer))
            self.assertIs(call[2], answer)
            self.assertIs(prober.undo()[2], answer)

    def test_calls_after_an_undo(self):
        prober = prober_of(FOUR, PRINTS, ((1, NARROW), (0, WIDE)))
        self.assertEqual(prober.undo(), ('see', 0, WIDE))
        prober.see(2, NARROW)
        prober.unsee(1)
        self.assertEqual(
            [prober.undo() for _ in range(4)],
            [('unsee', 1, NARROW), ('see', 2, NARROW), ('see', 1, NARROW), None],
        )

    def test_calls_that_raise_change_nothing(self):
        prober = prober_of(FOUR, PRINTS, ((1, NARROW), (0, WIDE)))
        prober.unsee(0)
        before = copy.deepcopy(state(prober))
        self.raises(InvalidIndex, prober.see, 3, NARROW)
        self.raises(InvalidIndex, prober.unsee, 0)
        self.raises(AlreadySeen, prober.see, 1, NARROW)
        self.raises(InvalidAnswer, prober.see, 0, (3,))
        self.raises(NoAgreement, prober.see, 2, WIDE)
        self.raises(AlreadySeen, prober.merged, prober_of(FOUR, PRINTS, ((1, WIDE),)))
        self.raises(NoAgreement, prober.merged, prober_of(FOUR, PRINTS, ((2, WIDE),)))
        self.assertEqual(state(prober), before)
        self.assert_equal(prober, prober_of(FOUR, PRINTS, ((1, NARROW),)), True)
        self.assertEqual(
            [prober.undo() for _ in range(4)], [('unsee', 0, WIDE), ('see', 0, WIDE), ('see', 1, NARROW), None],
        )

    def test_questions_change_nothing(self):
        prober = prober_of(FOUR, PRINTS, ((1, NARROW),))
        before = state(prober)
        prober.answer_to(FOURS)
        prober.fewest('i i', 9)
        prober.merged(prober_of(FOUR, PRINTS, ((0, WIDE),)))
        self.assertEqual(state(prober), before)
        self.assertEqual([prober.undo(), prober.undo()], [('see', 1, NARROW), None])

    def test_many_calls(self):
        prober = Prober(FOUR, PRINTS)
        calls = []
        for count in range(150):
            index, answer = count % 3, (WIDE, NARROW)[count % 2]
            prober.see(index, answer)
            prober.unsee(index)
            calls += [('see', index, answer), ('unsee', index, answer)]
        self.assertEqual([prober.undo() for _ in range(301)], calls[::-1] + [None])
        self.check_state(prober, FOUR, PRINTS, {})


class FontTest(ProberCase):
    def test_it_depends_only_on_what_is_seen(self):
        source = random.Random(1)
        for _ in range(40):
            knowledge, probes, seen = random_agreeing(source, source.choice(('a', 'im', 'abc')), 3)
            first = prober_of(knowledge, probes, seen)
            font = first.font()
            self.check_state(first, knowledge, probes, dict(seen))
            for other in itertools.permutations(seen):
                self.assertEqual(prober_of(knowledge, probes, other).font(), font)
            for index, answer in seen:
                first.unsee(index)
                first.see(index, answer)
                self.assertEqual(first.font(), font)
            if probes:
                other = Prober(*copy.deepcopy((knowledge, probes)))
                _, calls = random_calls(source, knowledge, probes, 6)
                for name, index, answer in calls:
                    other.see(index, answer) if name == 'see' else other.unsee(index)
                for index, _ in other.seen():
                    other.unsee(index)
                for index, answer in seen:
                    other.see(index, answer)
                self.assertEqual(other.font(), font)
            self.assertEqual(first.merged(prober_of(knowledge, probes, seen[:1])).font(), font)


class AnswersTest(ProberCase):
    def test_layouts(self):
        for seen, right in (
            ((), None), (((0, NARROW),), (4,)), (((1, NARROW),), None), (((1, NARROW), (0, WIDE)), (3, 1)),
            (((2, NARROW), (1, WIDE)), (2, 2)), (((2, WIDE),), (1, 1, 1, 1)), (((1, WIDE),), None),
        ):
            self.assertEqual(prober_of(FOUR, PRINTS, seen).answer_to(FOURS), right)

    def test_claims(self):
        for seen, right in (
            ((), None), (((0, NARROW),), True), (((1, NARROW),), True), (((2, NARROW),), None), (((2, WIDE),), False),
            (((1, WIDE), (2, NARROW)), None), (((0, WIDE),), None),
        ):
            self.assertIs(prober_of(FOUR, PRINTS, seen).answer_to(CLAIM), right, seen)

    def test_six_words_and_one(self):
        prober = prober_of(FOUR, PRINTS, ((1, NARROW), (0, WIDE)))
        self.assertEqual(prober.answer_to(('layout', 'i i i i i i', 12)), (3, 3))
        self.assertEqual(prober.answer_to(('layout', 'i', 1)), (1,))
        self.assertIsNone(Prober(TINY, ()).answer_to(('layout', 'i m i m i m', 99)))

    def test_arbitrary_questions(self):
        source = random.Random(2)
        for _ in range(80):
            letters = source.choice(('a', 'im', 'abc'))
            knowledge, probes, seen = random_agreeing(source, letters, 3)
            prober = prober_of(knowledge, probes, seen)
            for size in (2, 4, 8):
                question = random_question(source, letters, size)
                found = self.right_answers(knowledge, probes, seen, question)
                right = found[0] if len(found) == 1 else None
                self.assertEqual(prober.answer_to(question), right)
                self.assertIs(type(prober.answer_to(question)), type(right))
            text, measure = random_text(source, letters, source.randint(1, 6), 2), source.randint(1, 60)
            self.assertEqual(prober.fewest(text, measure), fewest_lines(knowledge, probes, seen, text, measure))

    def test_fewest(self):
        for seen, right in (((), 3), (((0, NARROW),), 2), (((0, WIDE),), 2)):
            self.assertEqual(prober_of(TRADE, SHOWN, seen).fewest('ii i m mm', 20), right)
        prober = prober_of(FOUR, PRINTS, ((1, NARROW),))
        for measure, right in ((3, 6), (8, 3), (12, 2), (23, 2), (24, 1)):
            self.assertEqual(prober.fewest('i i i i i i', measure), right)
        self.assertEqual(prober.fewest('iiii', 1), 1)


class MergedTest(ProberCase):
    def check(self, knowledge, probes, seen, other):
        """Check the merged prober of two that have seen answers."""
        first, second = prober_of(knowledge, probes, seen), prober_of(knowledge, probes, other)
        before = state(first), state(second)
        found = first.merged(second)
        both = {**dict(seen), **dict(other)}
        self.assertIs(type(found), Prober)
        self.check_state(found, knowledge, probes, both)
        self.assertEqual((state(first), state(second)), before)
        self.assert_equal(found, prober_of(knowledge, probes, tuple(both.items())), True)
        self.assert_equal(found, second.merged(first), True)
        self.assertEqual(
            [call for call, _ in everything_undone(found)],
            [('see', index, both[index]) for index in sorted(both, reverse=True)] + [None],
        )
        # Neither of both has changed with the new one.
        self.assertEqual((state(first), state(second)), before)
        for prober, calls in ((first, seen), (second, other)):
            self.assertEqual(
                [call for call, _ in everything_undone(prober)], [('see', *call) for call in calls[::-1]] + [None],
            )

    def test_the_same_and_other_answers(self):
        answers = ((0, WIDE), (1, WIDE), (2, NARROW))
        for many in range(4):
            for seen in itertools.permutations(answers, many):
                for count in range(4):
                    for other in itertools.combinations(answers[::-1], count):
                        self.check(FOUR, PRINTS, seen, other)

    def test_claims_and_one_word(self):
        self.check(FOUR, MIXED, ((0, True),), ((2, (1,)), (1, (3,))))
        self.check(FOUR, MIXED, ((2, (1,)),), ((0, False), (2, (1,))))

    def test_no_probe(self):
        self.check(FOUR, (), (), ())
        self.check(TINY, (), (), ())

    def test_contradicting_answers(self):
        for seen, other, index in (
            (((0, WIDE),), ((0, NARROW),), 0), (((1, WIDE),), ((1, NARROW),), 1),
            (((2, NARROW), (1, WIDE)), ((1, NARROW), (2, NARROW)), 1),
            (((1, WIDE), (0, WIDE)), ((1, NARROW), (0, NARROW)), 0),
            (((2, WIDE), (1, WIDE)), ((0, NARROW), (1, NARROW), (2, NARROW)), 1),
            (((2, WIDE), (1, WIDE), (0, WIDE)), ((2, NARROW), (0, WIDE)), 2),
            # Without this contradiction there would be another one: no font agrees with the others.
            (((2, WIDE), (1, WIDE)), ((1, NARROW),), 1), (((2, WIDE),), ((0, NARROW), (2, NARROW)), 2),
        ):
            first, second = prober_of(FOUR, PRINTS, seen), prober_of(FOUR, PRINTS, other)
            before = state(first), state(second)
            self.raises(AlreadySeen, first.merged, second, index=index)
            self.raises(AlreadySeen, second.merged, first, index=index)
            self.assertEqual((state(first), state(second)), before)

    def test_answers_that_no_font_agrees_with_together(self):
        for seen, other in (
            (((0, NARROW),), ((1, WIDE),)), (((2, WIDE),), ((0, NARROW),)), (((2, WIDE),), ((1, NARROW),)),
            (((2, WIDE),), ((1, NARROW), (0, WIDE))), (((0, NARROW), (2, NARROW)), ((1, WIDE), (2, NARROW))),
        ):
            first, second = prober_of(FOUR, PRINTS, seen), prober_of(FOUR, PRINTS, other)
            before = state(first), state(second)
            both = tuple({**dict(seen), **dict(other)}.items())
            for call, argument in ((first.merged, second), (second.merged, first)):
                # The refutation has a multiplier for each condition of all that was seen.
                self.check_refutation(self.raises(NoAgreement, call, argument), FOUR, PRINTS, both)
            self.assertEqual((state(first), state(second)), before)

    def test_the_new_one_is_of_its_own(self):
        first, second = prober_of(FOUR, PRINTS, ((1, NARROW),)), prober_of(FOUR, PRINTS, ((2, NARROW),))
        found = first.merged(second)
        found.see(0, WIDE)
        found.unsee(1)
        self.assertEqual([first.seen(), second.seen()], [((1, NARROW),), ((2, NARROW),)])
        first.unsee(1)
        second.see(0, NARROW)
        self.assertEqual(found.seen(), ((0, WIDE), (2, NARROW)))
        self.assertEqual([found.undo() for _ in range(5)], [
            ('unsee', 1, NARROW), ('see', 0, WIDE), ('see', 2, NARROW), ('see', 1, NARROW), None,
        ])
        self.assertEqual([first.undo(), first.undo(), first.undo()], [('unsee', 1, NARROW), ('see', 1, NARROW), None])

    def test_with_itself_and_with_one_of_equal_knowledge(self):
        prober = prober_of(FOUR, PRINTS, ((1, NARROW), (0, WIDE)))
        found = prober.merged(prober)
        self.assert_equal(found, prober, True)
        self.assertEqual([found.undo(), found.undo(), found.undo()], [('see', 1, NARROW), ('see', 0, WIDE), None])
        self.assertEqual(prober.seen(), ((0, WIDE), (1, NARROW)))
        other = prober_of(*copy.deepcopy((FOUR, PRINTS)), ((2, NARROW),))
        self.assertEqual(prober.merged(other).seen(), ((0, WIDE), (1, NARROW), (2, NARROW)))

    def test_what_was_forgotten_or_reverted_does_not_count(self):
        first, second = prober_of(FOUR, PRINTS, ((1, NARROW),)), prober_of(FOUR, PRINTS, ((1, WIDE),))
        second.unsee(1)
        self.assertEqual(first.merged(second).seen(), ((1, NARROW),))
        second.undo()
        self.raises(AlreadySeen, first.merged, second, index=1)
        second.undo()
        self.assertEqual(second.merged(first).seen(), ((1, NARROW),))

    def test_arbitrary_probers(self):
        source = random.Random(3)
        raised = {AlreadySeen: 0, NoAgreement: 0, None: 0}
        for _ in range(150):
            knowledge, probes = random_prober(source, source.choice(('a', 'im')))
            first, _ = random_calls(source, knowledge, probes, source.randint(0, 4))
            second, _ = random_calls(source, knowledge, probes, source.randint(0, 4))
            seen, other = dict(first.seen()), dict(second.seen())
            both = {**seen, **other}
            differing = [index for index in sorted(both) if index in seen and index in other and (
                seen[index] != other[index])]
            if differing:
                kind = AlreadySeen
                self.raises(kind, first.merged, second, index=differing[0])
            elif self.decide(knowledge, self.rows_of_seen(knowledge, probes, both.items())) is None:
                kind = NoAgreement
                error = self.raises(kind, first.merged, second)
                self.check_refutation(error, knowledge, probes, tuple(both.items()))
            else:
                kind = None
                self.check(knowledge, probes, first.seen(), second.seen())
            raised[kind] += 1
        self.assertTrue(all(raised.values()), raised)


class EqualityTest(ProberCase):
    def test_what_is_seen(self):
        first, second = Prober(FOUR, PRINTS), Prober(*copy.deepcopy((FOUR, PRINTS)))
        self.assert_equal(first, first, True)
        self.assert_equal(first, second, True)
        first.see(1, NARROW)
        self.assert_equal(first, second, False)
        second.see(1, WIDE)
        self.assert_equal(first, second, False)
        second.undo()
        second.see(0, WIDE)
        self.assert_equal(first, second, False)
        first.see(0, WIDE)
        second.see(1, NARROW)
        self.assert_equal(first, second, True)
        self.assertNotEqual(everything_undone(first), everything_undone(second))

    def test_the_order_of_the_calls(self):
        answers = ((0, WIDE), (1, WIDE), (2, NARROW))
        probers = [prober_of(FOUR, PRINTS, seen) for seen in itertools.permutations(answers)]
        for first in probers:
            for second in probers:
                self.assert_equal(first, second, True)
        probers[0].unsee(1)
        self.assert_equal(probers[0], probers[1], False)
        probers[0].see(1, WIDE)
        self.assert_equal(probers[0], probers[1], True)

    def test_other_knowledge_and_other_probes(self):
        prober = Prober(FOUR, PRINTS)
        for knowledge in (('i', ()), ('i', FOUR[1] * 2), ('i', (((1, 0), 0, True),)), ('m', FOUR[1]), TINY):
            self.assert_equal(prober, Prober(knowledge, PRINTS), False)
        for probes in (
            (), PRINTS[:2], PRINTS[::-1], PRINTS[:2] + ((PRINTS[2][0], 2),), PRINTS[:2] + ((('layout', 'i i', 11), 1),),
            MIXED,
        ):
            self.assert_equal(prober, Prober(FOUR, probes), False)
        first, second = prober_of(FOUR, PRINTS, ((1, NARROW),)), prober_of(FOUR, PRINTS[:2], ((1, NARROW),))
        self.assert_equal(first, second, False)
        self.assert_equal(Prober(FOUR, ()), Prober(FOUR, ()), True)

    def test_other_values(self):
        for prober in (Prober(FOUR, PRINTS), Prober(FOUR, ()), prober_of(FOUR, PRINTS, ((1, NARROW),))):
            for value in (
                FOUR, PRINTS, None, 0, 1, True, False, '', (), [], {}, prober.seen(), object(), Prober, [prober],
                (FOUR, PRINTS), (FOUR, PRINTS, prober.seen()),
            ):
                self.assert_equal(prober, value, False)
            self.assertTrue(prober in [None, prober])


class CopiesTest(ProberCase):
    def test_probers_do_not_share_anything(self):
        first, second = Prober(FOUR, PRINTS), Prober(FOUR, PRINTS)
        first.see(1, NARROW)
        self.check_state(second, FOUR, PRINTS, {})
        self.assertIsNone(second.undo())

    def test_arguments_do_not_change(self):
        index, answer = [1, {'a': [2]}], [[2], (1, [3])]
        before = copy.deepcopy((index, answer))
        prober = Prober(FOUR, PRINTS)
        self.raises(InvalidIndex, prober.see, index, answer, index=before[0])
        self.raises(InvalidIndex, prober.unsee, index, index=before[0])
        self.raises(InvalidAnswer, prober.see, 1, answer, answer=before[1])
        self.assertEqual((index, answer), before)


class Model:
    """What a prober must do, by snapshots of what is seen."""

    def __init__(self):
        self.snapshots = [(None, {})]

    def made(self, name, index, answer):
        seen = dict(self.snapshots[-1][1])
        if name == 'see':
            seen[index] = answer
        else:
            del seen[index]
        self.snapshots.append(((name, index, answer), seen))

    def undo(self):
        return self.snapshots.pop()[0] if len(self.snapshots) > 1 else None


class ArbitraryTest(ProberCase):
    def step(self, source, prober, model, knowledge, probes):
        """Make a call, which may raise an error, and check it."""
        seen = model.snapshots[-1][1]
        index = source.randint(-1, len(probes)) if source.random() < 0.9 else source.choice((True, None, [0]))
        if source.random() < 0.3:
            if is_index(index, len(probes)) and index in seen:
                self.assertIsNone(prober.unsee(index))
                model.made('unsee', index, seen[index])
            else:
                self.raises(InvalidIndex, prober.unsee, index, index=index)
            return
        question = probes[index][0] if is_index(index, len(probes)) else CLAIM
        answer = source.choice(slow_answers(question)) if source.random() < 0.9 else source.choice((0, (9,), None))
        if not is_index(index, len(probes)):
            self.raises(InvalidIndex, prober.see, index, answer, index=index)
        elif index in seen:
            self.raises(AlreadySeen, prober.see, index, answer, index=index)
        elif answer in (0, (9,), None) and answer is not False:
            self.raises(InvalidAnswer, prober.see, index, answer, answer=answer)
        elif self.decide(knowledge, self.rows_of_seen(knowledge, probes, [*seen.items(), (index, answer)])) is None:
            error = self.raises(NoAgreement, prober.see, index, answer)
            self.check_refutation(error, knowledge, probes, (*seen.items(), (index, answer)))
        else:
            self.assertIsNone(prober.see(index, answer))
            model.made('see', index, answer)

    def test_against_a_model(self):
        source = random.Random(4)
        for _ in range(60):
            knowledge, probes = random_prober(source, source.choice(('a', 'im', 'abc')))
            prober, model = Prober(knowledge, probes), Model()
            for _ in range(40):
                if source.random() < 0.2:
                    self.assertEqual(prober.undo(), model.undo())
                else:
                    self.step(source, prober, model, knowledge, probes)
                self.check_state(prober, knowledge, probes, model.snapshots[-1][1])
            self.assertEqual(
                [call for call, _ in everything_undone(prober)],
                [call for call, _ in model.snapshots[:0:-1]] + [None],
            )


if __name__ == '__main__':
    unittest.main()

"""Point [25]: logs of probers."""

import copy
import random
import unittest

from anyfont.proberlogs import first_prober_fault, is_prober_log, prober_log, resumed_prober
from anyfont.probers import Prober
from agreeing import slow_answers
from probing_states import ProberCase, everything_undone, prober_of, random_calls, random_prober, state
from samples import FOUR, ODD_VALUES, PRINTS, SHOWN, TRADE
from slowchecks import is_int, is_tuple, kind_and_value, slow_is_agreeing, slow_is_answer, variants

WIDE, NARROW = (1, 1), (2,)
THREE, FOUR_WIDE, FIVE, SEVEN = (1, (0, 3)), (1, (0, 4)), (1, (0, 5)), (1, (0, 7))
# What is known of the width of i after each call: at most 4, then more than 3, then only that, then at most 6.
LOG = [
    (('see', 1, NARROW), FOUR_WIDE), (('see', 0, WIDE), FOUR_WIDE), (('unsee', 1, NARROW), SEVEN),
    (('see', 2, NARROW), FIVE),
]
CLAIMS = ((('claim', ((0, 1), 5, False)), 1), (('layout', 'ii', 9), 2))
CLAIM_LOG = [
    (('see', 0, True), FIVE), (('see', 1, (1,)), FIVE), (('unsee', 0, True), SEVEN), (('see', 0, False), SEVEN),
]


def slow_fault(knowledge, probes, value):
    """Return the number of the first entry that is not right, straight from the document."""
    seen = {}
    for number, entry in enumerate(value):
        if not is_tuple(entry, 2) or not is_tuple(entry[0], 3):
            return number
        (name, index, answer), font = entry
        if not is_int(index, 0, len(probes) - 1) or not slow_is_answer(probes[index][0], answer):
            return number
        if name == 'see' and index not in seen:
            seen[index] = answer
        elif name == 'unsee' and index in seen and kind_and_value(seen[index]) == kind_and_value(answer):
            del seen[index]
        else:
            return number
        if not slow_is_agreeing(knowledge, probes, tuple(seen.items()), font):
            return number
    return None


class LogsCase(ProberCase):
    def check(self, knowledge, probes, value, right='not said'):
        """Check whether a list is a log, and its first entry that is not right; return that."""
        before = copy.deepcopy(value)
        fault = slow_fault(knowledge, probes, value)
        if right != 'not said':
            self.assertEqual(fault, right, value)
        found = first_prober_fault(knowledge, probes, value)
        self.assertEqual((found, type(found)), (fault, type(fault)), value)
        self.assertIs(is_prober_log(knowledge, probes, value), fault is None, value)
        self.assertEqual(value, before)
        return fault

    def check_log(self, prober, knowledge, probes, calls):
        """Check the log of a prober, and a prober that is resumed from it."""
        before = state(prober)
        log = prober_log(prober)
        self.assertIs(type(log), list)
        self.assertEqual([call for call, _ in log], calls)
        self.check(knowledge, probes, log, None)
        self.assertEqual(prober_log(prober), log)
        resumed = resumed_prober(knowledge, probes, log)
        self.assertIs(type(resumed), Prober)
        self.assert_equal(resumed, prober, True)
        self.assertEqual((state(resumed), state(prober)), (before, before))
        self.assertEqual(prober_log(resumed), log)
        self.assertEqual(everything_undone(resumed), everything_undone(resumed_prober(knowledge, probes, log)))
        self.assertEqual(everything_undone(resumed_prober(knowledge, probes, log)), everything_undone(prober))
        return log


class ProberLogTest(LogsCase):
    def test_examples(self):
        prober = Prober(FOUR, PRINTS)
        prober.see(1, (2,))
        self.assertEqual(prober_log(prober)[0][0], ('see', 1, (2,)))
        self.assertIs(is_prober_log(FOUR, PRINTS, prober_log(prober)), True)
        self.assertIs(resumed_prober(FOUR, PRINTS, prober_log(prober)) == prober, True)
        value = [(('see', 0, (2,)), (1, (0, 3))), (('see', 1, (1, 1)), (1, (0, 4)))]
        self.assertEqual(first_prober_fault(FOUR, PRINTS, value), 1)
        self.assertIs(is_prober_log(FOUR, PRINTS, ()), False)

    def test_a_new_prober(self):
        for probes in ((), PRINTS, CLAIMS):
            self.assertEqual(self.check_log(Prober(FOUR, probes), FOUR, probes, []), [])

    def test_calls(self):
        prober = Prober(FOUR, PRINTS)
        for (name, index, answer), _ in LOG:
            prober.see(index, answer) if name == 'see' else prober.unsee(index)
        self.check_log(prober, FOUR, PRINTS, [call for call, _ in LOG])

    def test_claims(self):
        for answer in (False, True):
            prober = prober_of(FOUR, CLAIMS, ((0, answer), (1, (1,))))
            log = self.check_log(prober, FOUR, CLAIMS, [('see', 0, answer), ('see', 1, (1,))])
            self.assertIs(log[0][0][2], answer)

    def test_after_reverted_calls(self):
        prober = prober_of(FOUR, PRINTS, ((1, NARROW), (0, WIDE)))
        prober.unsee(1)
        prober.undo()
        prober.undo()
        prober.see(2, NARROW)
        prober.unsee(1)
        calls = [('see', 1, NARROW), ('see', 2, NARROW), ('unsee', 1, NARROW)]
        self.check_log(prober, FOUR, PRINTS, calls)
        prober = prober_of(FOUR, PRINTS, ((1, NARROW), (0, WIDE)))
        while prober.undo() is not None:
            pass
        self.check_log(prober, FOUR, PRINTS, [])

    def test_calls_that_raised_are_not_in_it(self):
        prober = prober_of(FOUR, PRINTS, ((1, NARROW),))
        for call, arguments in (
            (prober.see, (1, NARROW)), (prober.see, (2, WIDE)), (prober.see, (0, None)), (prober.see, (3, NARROW)),
            (prober.unsee, (0,)),
        ):
            self.assertRaises(ValueError, call, *arguments)
        self.check_log(prober, FOUR, PRINTS, [('see', 1, NARROW)])

    def test_of_a_merged_prober(self):
        first, second = prober_of(FOUR, PRINTS, ((2, NARROW), (1, WIDE))), prober_of(FOUR, PRINTS, ((0, WIDE),))
        second.see(1, WIDE)
        second.unsee(1)
        calls = [('see', 0, WIDE), ('see', 1, WIDE), ('see', 2, NARROW)]
        merged = first.merged(second)
        merged.unsee(0)
        self.check_log(merged, FOUR, PRINTS, calls + [('unsee', 0, WIDE)])
        self.check_log(second.merged(first), FOUR, PRINTS, calls)

    def test_lists_are_new(self):
        prober = prober_of(FOUR, PRINTS, ((1, NARROW), (0, WIDE)))
        right = copy.deepcopy(prober_log(prober))
        found = prober_log(prober)
        found.clear()
        self.assertEqual(prober_log(prober), right)
        log = list(right)
        resumed = resumed_prober(FOUR, PRINTS, log)
        log.append(None)
        resumed.unsee(0)
        self.assertEqual([len(log), len(right), len(resumed)], [3, 2, 1])
        self.assertEqual(prober_log(prober), right)

    def test_it_does_not_change_the_prober(self):
        prober = prober_of(FOUR, PRINTS, ((1, NARROW), (0, WIDE)))
        prober_log(prober).append(None)
        self.assertEqual([prober.undo(), prober.undo(), prober.undo()], [('see', 0, WIDE), ('see', 1, NARROW), None])
        self.assertEqual(prober_log(prober), [])

    def test_arbitrary_calls(self):
        source = random.Random(1)
        for _ in range(80):
            knowledge, probes = random_prober(source, source.choice(('a', 'im', 'abc')))
            prober, calls = random_calls(source, knowledge, probes, source.randint(0, 8))
            for _ in range(source.randint(0, min(2, len(calls)))):
                self.assertEqual(prober.undo(), calls.pop())
            self.check_log(prober, knowledge, probes, calls)


class ResumedTest(LogsCase):
    def test_fonts_of_a_log_are_any_that_agree(self):
        resumed = resumed_prober(FOUR, PRINTS, LOG)
        self.check_state(resumed, FOUR, PRINTS, {0: WIDE, 2: NARROW})
        self.assertEqual([call for call, _ in everything_undone(resumed)], [call for call, _ in LOG[::-1]] + [None])

    def test_it_goes_on(self):
        resumed = resumed_prober(FOUR, PRINTS, LOG)
        resumed.see(1, WIDE)
        self.assertEqual(len(prober_log(resumed)), 5)
        self.assertEqual([resumed.undo(), resumed.undo()], [('see', 1, WIDE), ('see', 2, NARROW)])

    def test_an_empty_log(self):
        self.assert_equal(resumed_prober(FOUR, PRINTS, []), Prober(FOUR, PRINTS), True)
        self.assertIsNone(resumed_prober(FOUR, (), []).undo())


class FaultsTest(LogsCase):
    def test_logs(self):
        self.check(FOUR, PRINTS, LOG, None)
        self.check(FOUR, CLAIMS, CLAIM_LOG, None)
        for many in range(5):
            self.check(FOUR, PRINTS, LOG[:many], None)
        self.check(FOUR, (), [], None)
        self.check(FOUR, PRINTS, [], None)

    def test_an_entry_left_out(self):
        for place, right in ((0, 1), (1, None), (2, 2), (3, None)):
            found = self.check(FOUR, PRINTS, LOG[:place] + LOG[place + 1:])
            self.assertEqual(found, right, place)

    def test_an_entry_twice(self):
        for place in range(4):
            self.check(FOUR, PRINTS, LOG[:place + 1] + LOG[place:], place + 1)

    def test_entries_exchanged(self):
        faults = set()
        for first in range(4):
            for second in range(first):
                value = list(LOG)
                value[first], value[second] = value[second], value[first]
                faults.add(self.check(FOUR, PRINTS, value))
        self.assertGreater(len(faults), 2)

    def test_an_entry_put_in(self):
        for place in range(5):
            for entry, faults in (
                ((('see', 0, NARROW), THREE), {0: 1, 1: 2, 2: 2, 3: 3, 4: 4}),
                ((('unsee', 0, WIDE), FOUR_WIDE), {0: 0, 1: 1, 2: None, 3: None, 4: None}),
                ((('unsee', 0, NARROW), FOUR_WIDE), {0: 0, 1: 1, 2: 2, 3: 3, 4: 4}),
            ):
                self.check(FOUR, PRINTS, LOG[:place] + [entry] + LOG[place:], faults[place])

    def test_a_part_of_another_entry(self):
        for place in range(4):
            for other in range(4):
                if other != place:
                    (call, font), (other_call, other_font) = LOG[place], LOG[other]
                    for entry in (
                        (other_call, font), (call, other_font), ((*call[:2], other_call[2]), font),
                        ((call[0], other_call[1], call[2]), font), ((other_call[0], *call[1:]), font),
                    ):
                        self.check(FOUR, PRINTS, LOG[:place] + [entry] + LOG[place + 1:])

    def test_the_answer_that_is_forgotten(self):
        for answer, right in ((NARROW, None), (WIDE, 2), ((True, True), 2), ((3,), 2), (None, 2), ([2], 2), (True, 2)):
            value = LOG[:2] + [(('unsee', 1, answer), SEVEN)] + LOG[3:]
            self.check(FOUR, PRINTS, value, right)
        for answer, right in ((True, None), (False, 2), (1, 2), (0, 2), (None, 2)):
            value = CLAIM_LOG[:2] + [(('unsee', 0, answer), SEVEN)] + CLAIM_LOG[3:]
            self.check(FOUR, CLAIMS, value, right)

    def test_the_answer_that_is_seen(self):
        for answer, right in ((NARROW, None), (WIDE, 0), ((True, True), 0), ((3,), 0), (None, 0), ([2], 0)):
            self.check(FOUR, PRINTS, [(('see', 1, answer), FOUR_WIDE)], right)
        for answer, right in ((True, None), (False, 0), (1, 0), (0, 0), (None, 0), ((1,), 0)):
            self.check(FOUR, CLAIMS, [(('see', 0, answer), FIVE)], right)

    def test_a_probe_that_is_or_is_not_seen(self):
        for entry, right in (
            ((('see', 1, NARROW), FOUR_WIDE), 1), ((('see', 1, WIDE), FIVE), 1), ((('unsee', 0, WIDE), FOUR_WIDE), 1),
            ((('unsee', 0, NARROW), THREE), 1), ((('unsee', 1, NARROW), FOUR_WIDE), None),
            ((('see', 0, NARROW), THREE), None),
        ):
            self.check(FOUR, PRINTS, [LOG[0], entry], right)
            self.check(FOUR, PRINTS, [entry, LOG[0]])
        self.check(FOUR, PRINTS, [LOG[0], (('unsee', 1, NARROW), SEVEN), LOG[0]], None)
        self.check(FOUR, PRINTS, [LOG[0], (('unsee', 1, NARROW), SEVEN), (('unsee', 1, NARROW), SEVEN)], 2)
        self.check(FOUR, (), [LOG[0]], 0)

    def test_names_that_are_none(self):
        for name in ('', 'See', 'sees', 'undo', 'merged', 'unsees', None, True, 0, ('see',), ['see'], 'unsee'):
            self.check(FOUR, PRINTS, [((name, 1, NARROW), FOUR_WIDE)], 0)
            self.check(FOUR, PRINTS, LOG[:1] + [((name, 0, WIDE), FOUR_WIDE)], 1)
        for name in ('', 'see', 'Unsee', 'undo', None, False, 1, ('unsee',)):
            self.check(FOUR, PRINTS, LOG[:2] + [((name, 1, NARROW), SEVEN)], 2)

    def test_indices_that_are_none(self):
        for index in (-1, -2, 3, True, None, '1', (1,), [1], 10 ** 59, {}):
            self.check(FOUR, PRINTS, [(('see', index, NARROW), FOUR_WIDE)], 0)
            self.check(FOUR, PRINTS, [LOG[0], (('unsee', index, NARROW), SEVEN)], 1)
        self.check(FOUR, PRINTS, [(('see', False, NARROW), THREE)], 0)
        self.check(FOUR, PRINTS, [(('see', 0, NARROW), THREE), (('unsee', False, NARROW), THREE)], 1)

    def test_forms(self):
        call, font = LOG[0]
        for entry in (
            (call,), (call, font, None), (call, font, font), [call, font], (list(call), font), (font, call), call, font,
            (call[:2], font), ((*call, None), font), ('see', 1, NARROW, font), (call, None), (call, list(font)),
            ('see', call, font), {call: font}, None, (), ((), ()), ((call, font),), 'see', 1, True,
        ):
            self.check(FOUR, PRINTS, [entry], 0)
            self.check(FOUR, PRINTS, [LOG[0], entry], 1)
            self.check(FOUR, PRINTS, LOG + [entry], 4)

    def test_fonts(self):
        for place, (call, _) in enumerate(LOG):
            for font in (
                THREE, FOUR_WIDE, FIVE, SEVEN, (1, (1, 4)), (1, (0, 21)), (2, (0, 8)), (2, (0, 9)), (2, (0, 7)),
                (1, (4,)), (1, (0, 4, 4)), (True, (0, 4)), (1, (False, 4)), [1, (0, 4)], (1, [0, 4]), (0, (0, 4)),
                None, (0, 4), 4,
            ):
                self.check(FOUR, PRINTS, LOG[:place] + [(call, font)] + LOG[place + 1:])
        # A font agrees with what is seen after the call, not before it.
        self.check(FOUR, PRINTS, [(('see', 1, NARROW), FIVE)], 0)
        self.check(FOUR, PRINTS, LOG[:2] + [(('unsee', 1, NARROW), FIVE)], None)
        self.check(FOUR, PRINTS, LOG[:2] + [(('unsee', 1, NARROW), THREE)], 2)
        self.check(TRADE, SHOWN, [(('see', 0, NARROW), (1, (0, 5, 5)))], None)
        self.check(TRADE, SHOWN, [(('see', 0, NARROW), (1, (0, 5, 6)))], 0)
        self.check(TRADE, SHOWN, [(('see', 0, WIDE), (1, (0, 5, 5)))], 0)

    def test_the_first_of_several_faults(self):
        for first in range(4):
            for second in range(first, 4):
                value = list(LOG)
                value[second] = None
                value[first] = (value[first] or (None,))[:1]
                self.check(FOUR, PRINTS, value, first)

    def test_small_changes(self):
        logs = 0
        for probes, log in ((PRINTS, LOG), (CLAIMS, CLAIM_LOG)):
            for place, entry in enumerate(log):
                for other in variants(entry):
                    logs += self.check(FOUR, probes, log[:place] + [other] + log[place + 1:]) is None
        self.assertGreater(logs, 8)

    def test_any_other_value(self):
        for value in ODD_VALUES:
            if type(value) is list:
                self.check(FOUR, PRINTS, value)
            else:
                self.assertIs(is_prober_log(FOUR, PRINTS, value), False)
            for entry in (value, (value, FIVE), (('see', 1, NARROW), value), ((value, 1, NARROW), FOUR_WIDE),
                          (('see', value, NARROW), FOUR_WIDE), (('see', 1, value), FOUR_WIDE)):
                self.check(FOUR, PRINTS, [entry])
                self.check(FOUR, PRINTS, [LOG[0], entry, LOG[1]])

    def test_no_list(self):
        for value in (
            tuple(LOG), dict(enumerate(LOG)), dict(LOG), LOG[0], None, True, 0, 'log', (LOG,), {}, (), '',
        ):
            self.assertIs(is_prober_log(FOUR, PRINTS, value), False)
        self.assertIs(is_prober_log(FOUR, PRINTS, [LOG]), False)
        self.assertIs(is_prober_log(FOUR, PRINTS, []), True)

    def test_another_knowledge_and_other_probes(self):
        self.check(FOUR, PRINTS[::-1], LOG)
        self.check(FOUR, PRINTS[:2], LOG, 3)
        self.check(('i', ()), PRINTS, LOG, None)
        self.check(('i', (((0, 1), 4, True),)), PRINTS, LOG, 0)
        self.check(TRADE, PRINTS, LOG, 0)

    def test_arbitrary_changes(self):
        source = random.Random(2)
        faults = 0
        for _ in range(200):
            knowledge, probes = random_prober(source, source.choice(('a', 'im')))
            prober, _ = random_calls(source, knowledge, probes, source.randint(1, 6))
            log = prober_log(prober)
            place, other = source.randrange(len(log)), source.randrange(len(log))
            (name, index, answer), font = log[place]
            change = source.randrange(6)
            if change == 0:
                del log[place]
            elif change == 1:
                log.insert(other, log[place])
            elif change == 2:
                log[place], log[other] = log[other], log[place]
            elif change == 3:
                log[place] = (log[place][0], log[other][1])
            elif change == 4:
                log[place] = ((name, index, source.choice(slow_answers(probes[index][0]))), font)
            else:
                log[place] = ((source.choice(('see', 'unsee')), source.randrange(len(probes)), answer), font)
            faults += self.check(knowledge, probes, log) is not None
        self.assertTrue(30 < faults < 190, faults)


class ArgumentsTest(LogsCase):
    def test_arguments_do_not_change_and_results_are_equal(self):
        arguments = (FOUR, PRINTS, copy.deepcopy(LOG))
        before = copy.deepcopy(arguments)
        for _ in range(2):
            self.assertIsNone(first_prober_fault(*arguments))
            self.assertIs(is_prober_log(*arguments), True)
            prober = resumed_prober(*arguments)
            prober.unsee(0)
            prober.undo()
            self.assertEqual(prober_log(prober), prober_log(resumed_prober(*before)))
        self.assertEqual(arguments, before)


if __name__ == '__main__':
    unittest.main()

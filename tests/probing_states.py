"""A test case for probers: errors with their attributes, and all that the methods of a prober tell."""

from anyfont.probers import Prober
from anyfont.solving import has_font
from agreeing import AgreeingCase, random_agreeing, slow_answers
from searching import random_related
from slowchecks import document_rows, slow_is_agreeing, slow_is_refutation


def prober_of(knowledge, probes, seen=()):
    """Return a prober that has seen answers, in this order."""
    prober = Prober(knowledge, probes)
    for index, answer in seen:
        prober.see(index, answer)
    return prober


def state(prober):
    """Return what the methods of a prober tell of what is seen."""
    return prober.seen(), len(prober), prober.font()


def everything_undone(prober):
    """Return what undo returns until there is nothing to revert, with the state after each."""
    told = []
    while True:
        call = prober.undo()
        told.append((call, state(prober)))
        if call is None:
            return told


def random_prober(source, letters):
    """Return a knowledge with a fitting font, and probes, at least one."""
    while True:
        if source.random() < 0.7:
            # Probes about lines of one text often contradict each other.
            knowledge, probes, _, _ = random_related(source, letters)
        else:
            knowledge, probes, _ = random_agreeing(source, letters, 3)
        if probes and has_font(knowledge):
            return knowledge, probes


def random_calls(source, knowledge, probes, many):
    """Return a prober and the list of so many calls that it has made, some of see and some of unsee."""
    prober = Prober(knowledge, probes)
    calls = []
    while len(calls) < many:
        index = source.randrange(len(probes))
        known = dict(prober.seen())
        if index in known:
            prober.unsee(index)
            calls.append(('unsee', index, known[index]))
            continue
        answer = source.choice(slow_answers(probes[index][0]))
        try:
            prober.see(index, answer)
        except ValueError:
            continue
        calls.append(('see', index, answer))
    return prober, calls


class ProberCase(AgreeingCase):
    def raises(self, kind, call, *arguments, **attributes):
        """Check the error of a call, with its class itself and its attributes; return it."""
        with self.assertRaises(kind) as caught:
            call(*arguments)
        self.assertIs(type(caught.exception), kind, arguments)
        for name, value in attributes.items():
            held = getattr(caught.exception, name)
            self.assertEqual(held, value)
            self.assertIs(type(held), type(value))
        return caught.exception

    def check_refutation(self, error, knowledge, probes, seen):
        """Check that the refutation of an error is one for the conditions of SEEN."""
        rows = document_rows(knowledge, probes, seen)
        self.assertTrue(slow_is_refutation(knowledge, rows, error.refutation), (knowledge, probes, seen))

    def check_state(self, prober, knowledge, probes, seen):
        """Check what a prober tells when it has seen a dict of answers."""
        right = tuple((index, seen[index]) for index in sorted(seen))
        self.assertEqual(prober.seen(), right)
        self.assertIs(type(prober.seen()), tuple)
        self.assertEqual([type(answer) for _, answer in prober.seen()], [type(answer) for _, answer in right])
        self.assertEqual(len(prober), len(seen))
        self.assertTrue(slow_is_agreeing(knowledge, probes, right, prober.font()))

    def assert_equal(self, prober, other, right):
        self.assertIs(prober == other, right)
        self.assertIs(other == prober, right)
        self.assertIs(prober != other, not right)
        self.assertIs(other != prober, not right)

"""Logs of probers, which are checked without a solver (stage 20)."""

from anyfont.probers import SEE, UNSEE, Prober, in_order
from anyfont.probing import is_agreeing, is_answer
from anyfont.values import is_integer_within, is_tuple_of


def prober_log(prober):
    """Return the log of a prober: its calls that were not reverted, each with a font that agrees after it."""
    replayed = prober.fresh()
    found = []
    for call in prober.calls():
        make_call(replayed, call)
        found.append((call, replayed.font()))
    return found


def make_call(prober, call):
    """Make a call of a log."""
    name, index, answer = call
    if name == SEE:
        prober.see(index, answer)
    else:
        prober.unsee(index)


def first_prober_fault(knowledge, probes, value):
    """Return the number of the first entry of a list of any values that is not right, or None if it is a log."""
    seen = {}
    for number, entry in enumerate(value):
        if not is_tuple_of(entry, 2) or not is_call(probes, seen, entry[0]):
            return number
        (name, index, answer), font = entry
        if name == SEE:
            seen[index] = answer
        else:
            del seen[index]
        if not is_agreeing(knowledge, probes, in_order(seen), font):
            return number
    return None


def is_call(probes, seen, value):
    """Return whether any value is a call that a prober can make that has seen a dict of answers."""
    if not is_tuple_of(value, 3):
        return False
    name, index, answer = value
    if not is_integer_within(index, 0, len(probes) - 1) or not is_answer(probes[index][0], answer):
        return False
    if name == SEE:
        return index not in seen
    return name == UNSEE and index in seen and seen[index] == answer


def is_prober_log(knowledge, probes, value):
    """Return whether any value is a log."""
    return isinstance(value, list) and first_prober_fault(knowledge, probes, value) is None


def resumed_prober(knowledge, probes, log):
    """Return a new prober that has made the calls of a log."""
    found = Prober(knowledge, probes)
    for call, _ in log:
        make_call(found, call)
    return found

"""Claims that hold for all fitting fonts, or for some (stage 5)."""

from anyfont.solving import find_font, find_highest
from anyfont.values import lowest_terms


def opposite(condition):
    """Return the condition that holds for exactly those fonts for which the given one does not."""
    factors, bound, strict = condition
    return tuple([-factor for factor in factors]), -bound, not strict


def is_sure(knowledge, claim):
    """Return whether a claim holds for all fitting fonts."""
    return not is_possible(knowledge, opposite(claim))


def is_possible(knowledge, claim):
    """Return whether a claim holds for some fitting font."""
    return find_font(knowledge, [claim]) is not None


def highest(knowledge, factors):
    """Return (numerator, denominator, is_reached) for the least upper bound of a sum, or None."""
    tableau = find_highest(knowledge, [], factors)
    if tableau is None:
        return None
    # Where the highest sum still gives way to a step, only fonts below it fit.
    whole, steps = tableau.combined(factors)[-2:]
    numerator, denominator = lowest_terms(whole, tableau.unit)
    return numerator, denominator, steps == 0

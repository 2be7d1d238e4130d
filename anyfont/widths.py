"""Conditions on how wide a string is."""

from anyfont.claims import opposite
from anyfont.texts import counts


def within(letters, string, measure):
    """Return the condition that a string is at most the measure wide."""
    return counts(letters, string), measure, False


def beyond(letters, string, measure):
    """Return the condition that a string is wider than the measure."""
    return opposite(within(letters, string, measure))


def beyond_fraction(letters, string, fraction):
    """Return the row that a string is wider than a fraction; its numbers may be larger than a condition's."""
    numerator, denominator = fraction
    return tuple([-denominator * count for count in counts(letters, string)]), -numerator, True

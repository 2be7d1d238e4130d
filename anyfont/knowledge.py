"""Letters, fonts, conditions and knowledges (stage 1)."""

from anyfont.values import are_integers_within, common_divisor, is_integer, is_integer_within, is_tuple_of

MOST_LETTERS = 4
MOST_UNITS = 20
MOST_FACTOR = 99
MOST_BOUND = 9999
MOST_FACTS = 8


def is_letters(value):
    """Return whether any value is the letters of a knowledge."""
    if not isinstance(value, str) or not 1 <= len(value) <= MOST_LETTERS:
        return False
    return (
        all(["!" <= letter <= "~" for letter in value])
        and all([letter < after for letter, after in zip(value, value[1:])])
    )


def is_condition(letters, value):
    """Return whether any value is a condition for the letters."""
    if not is_tuple_of(value, 3):
        return False
    factors, bound, strict = value
    return (
        are_integers_within(factors, len(letters) + 1, -MOST_FACTOR, MOST_FACTOR)
        and is_integer_within(bound, -MOST_BOUND, MOST_BOUND)
        and isinstance(strict, bool)
    )


def is_font(letters, value):
    """Return whether any value is a font for the letters."""
    if not is_tuple_of(value, 2):
        return False
    unit, widths = value
    if not is_integer(unit) or unit < 1:
        return False
    return (
        are_integers_within(widths, len(letters) + 1, 0, MOST_UNITS * unit)
        and common_divisor([unit, *widths]) == 1
    )


def is_knowledge(value):
    """Return whether any value is a knowledge."""
    if not is_tuple_of(value, 2):
        return False
    letters, facts = value
    if not is_letters(letters) or not isinstance(facts, tuple) or len(facts) > MOST_FACTS:
        return False
    return all([is_condition(letters, fact) for fact in facts])


def without_fact(knowledge, index):
    """Return a knowledge without one of its facts."""
    letters, facts = knowledge
    return letters, facts[:index] + facts[index + 1:]


def sum_of_parts(factors, font):
    """Return the sum for a font, times its unit, so that it is an integer."""
    return sum([factor * part for factor, part in zip(factors, font[1])])


def holds(condition, font):
    """Return whether a condition holds for a font."""
    factors, bound, strict = condition
    found = sum_of_parts(factors, font)
    allowed = bound * font[0]
    return found < allowed if strict else found <= allowed


def fits(knowledge, font):
    """Return whether all facts of a knowledge hold for a font."""
    return all([holds(fact, font) for fact in knowledge[1]])

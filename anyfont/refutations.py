"""Refutations: multipliers by which rows add up to a contradiction (stage 3)."""

from anyfont.knowledge import MOST_UNITS
from anyfont.values import is_integer, is_tuple_of


def rows_of(knowledge, conditions):
    """Return the rows for a knowledge and conditions, each in the form of a condition."""
    letters, facts = knowledge
    many = len(letters) + 1
    at_least = [(factors_of_sign(many, sign, -1), 0, False) for sign in range(many)]
    at_most = [(factors_of_sign(many, sign, 1), MOST_UNITS, False) for sign in range(many)]
    return [*facts, *conditions, *at_least, *at_most]


def factors_of_sign(many, sign, factor):
    """Return the factors of so many signs that are 0 for all signs but one."""
    return tuple([factor if place == sign else 0 for place in range(many)])


def is_refutation(knowledge, conditions, value):
    """Return whether any value is a refutation for a knowledge and conditions."""
    rows = rows_of(knowledge, conditions)
    if not are_multipliers(value, len(rows)):
        return False
    for sign in range(len(knowledge[0]) + 1):
        if sum([multiplier * row[0][sign] for multiplier, row in zip(value, rows)]) != 0:
            return False
    total = sum([multiplier * row[1] for multiplier, row in zip(value, rows)])
    return total < 0 or (total == 0 and uses_strict_row(rows, value))


def are_multipliers(value, many):
    """Return whether any value is a tuple of so many integers of at least 0."""
    return is_tuple_of(value, many) and all([is_integer(item) and item >= 0 for item in value])


def uses_strict_row(rows, multipliers):
    """Return whether the multiplier of some strict row is not 0."""
    return any([row[2] and multiplier > 0 for multiplier, row in zip(multipliers, rows)])

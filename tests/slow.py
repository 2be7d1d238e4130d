"""A slow and independent way to decide what rows allow: all corners of what is allowed.

The fonts for which all rows hold, taken as not strict, are the mixtures of finitely
many corners. For some font all rows hold just as they are, if there is a corner and,
for each strict row, a corner at which it holds: then it holds for their mean.
"""

import itertools
from fractions import Fraction


def all_rows(knowledge, conditions):
    """Return the rows of point [9]."""
    letters, facts = knowledge
    signs = range(len(letters) + 1)
    rows = list(facts) + list(conditions)
    rows += [(tuple(-(place == sign) for place in signs), 0, False) for sign in signs]
    rows += [(tuple(int(place == sign) for place in signs), 20, False) for sign in signs]
    return rows


def total(factors, widths):
    return sum(factor * width for factor, width in zip(factors, widths))


def solve(rows):
    """Return the widths for which as many rows as signs are just met, or None if not one point."""
    matrix = [[Fraction(part) for part in factors] + [Fraction(bound)] for factors, bound, _ in rows]
    size = len(matrix)
    for column in range(size):
        place = next((at for at in range(column, size) if matrix[at][column]), None)
        if place is None:
            return None
        matrix[column], matrix[place] = matrix[place], matrix[column]
        lead = matrix[column] = [cell / matrix[column][column] for cell in matrix[column]]
        for at in range(size):
            if at != column and matrix[at][column]:
                times = matrix[at][column]
                matrix[at] = [cell - times * other for cell, other in zip(matrix[at], lead)]
    return tuple(row[-1] for row in matrix)


def corners(rows):
    many = len(rows[0][0])
    found = set()
    for chosen in itertools.combinations(rows, many):
        widths = solve(chosen)
        if widths is not None and all(total(factors, widths) <= bound for factors, bound, _ in rows):
            found.add(widths)
    return found


def allows(rows, points):
    """Return whether all rows hold for some mixture of points for which they hold as not strict."""
    return bool(points) and all(
        any(total(factors, point) < bound for point in points) for factors, bound, strict in rows if strict
    )


def slow_has_font(knowledge, conditions=()):
    rows = all_rows(knowledge, conditions)
    return allows(rows, corners(rows))


def slow_highest(knowledge, factors):
    rows = all_rows(knowledge, ())
    points = corners(rows)
    if not allows(rows, points):
        return None
    top = max(total(factors, point) for point in points)
    at_top = [point for point in points if total(factors, point) == top]
    return Fraction(top).numerator, Fraction(top).denominator, allows(rows, at_top)


def random_condition(source, many, center=None):
    """Return a condition; with a center, widths, it is often just met there or just not."""
    most = source.choice((1, 3, 9, 99))
    factors = tuple(source.choice((0, 1, 1)) * source.randint(-most, most) for _ in range(many))
    if center is None:
        bound = source.randint(-10 * most, 25 * most)
    else:
        bound = total(factors, center) + source.choice((0, 0, 0, 1, 3))
    return factors, max(-9999, min(9999, bound)), source.random() < 0.3


def random_conditions(source, many, size):
    """Return so many conditions, about half of the times such that all or most hold for one font."""
    center = source.choice((None, tuple(source.randint(0, 20) for _ in range(many))))
    return [random_condition(source, many, center) for _ in range(size)]


def random_knowledge(source, letters, size):
    return letters, tuple(random_conditions(source, len(letters) + 1, size))

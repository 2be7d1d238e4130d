"""Fonts for which conditions hold, or refutations if there are none (stage 4)."""

from anyfont.refutations import rows_of
from anyfont.tableaus import Tableau


def find_font(knowledge, conditions):
    """Return a font that fits and for which all conditions hold, or None."""
    tableau = tableau_of(knowledge, conditions)
    if tableau.settle() is not None:
        return None
    return tableau.font()


def find_refutation(knowledge, conditions):
    """Return a refutation for a knowledge and conditions, or None."""
    tableau = tableau_of(knowledge, conditions)
    place = tableau.settle()
    if place is None:
        return None
    return tableau.multipliers(place)


def has_font(knowledge):
    """Return whether some font fits."""
    return find_font(knowledge, []) is not None


def find_highest(knowledge, conditions, factors):
    """Return a settled tableau in which the sum for the factors is highest, or None without a font."""
    tableau = tableau_of(knowledge, conditions)
    if tableau.settle() is not None:
        return None
    tableau.rise(factors)
    return tableau


def tableau_of(knowledge, conditions):
    """Return a new tableau of the rows for a knowledge and conditions."""
    return Tableau(rows_of(knowledge, conditions), len(knowledge[0]) + 1)

"""Shortening a text with a mark (stage 10)."""

from anyfont.solving import find_font
from anyfont.texts import is_within
from anyfont.widths import beyond, within


def short_form(letters, text, mark, measure, font):
    """Return the short form of a text for a font and a measure."""
    for form in forms(text, mark):
        if is_within(letters, form, measure, font):
            return form
    return ""


def short_forms(knowledge, text, mark, measure):
    """Return the short forms that a text has for fitting fonts, in ascending order."""
    letters = knowledge[0]
    found = []
    passed = []
    for form in forms(text, mark):
        if find_font(knowledge, [*passed, within(letters, form, measure)]) is not None:
            found.append(form)
        # Where a beginning is too long, all longer ones are, so these two stand for all forms so far.
        passed = [beyond(letters, text, measure), beyond(letters, form, measure)]
    if find_font(knowledge, passed) is not None:
        found.append("")
    return sorted(found)


def forms(text, mark):
    """Return the forms of a text of which the first one that fits is taken."""
    return [text] + [text[:size] + mark for size in range(len(text) - 1, -1, -1)]

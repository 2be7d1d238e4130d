"""How texts may break, one word after the other.

A STATE is a tuple (layout, conditions, font): how the first words of a text may
stand on lines, conditions that hold for exactly the fonts that break them so, and
one of these fonts, which fits.
"""

from anyfont.claims import opposite
from anyfont.knowledge import holds
from anyfont.solving import find_font
from anyfont.widths import beyond


def first_states(knowledge, conditions):
    """Return the states for one word and fonts for which conditions hold: one, or none without a font."""
    font = find_font(knowledge, conditions)
    if font is None:
        return []
    return [((1,), list(conditions), font)]


def states_after(knowledge, state, wides):
    """Return the states with one more word, on a line of its own and then on the last line.

    wides are conditions. The word gets its own line if all of them hold, and the
    last line takes it if none of them holds.
    """
    layout = state[0]
    choices = (
        (layout + (1,), wides),
        (layout[:-1] + (layout[-1] + 1,), [opposite(wide) for wide in wides]),
    )
    found = []
    for longer, added in choices:
        font = font_with(knowledge, state, added)
        if font is not None:
            found.append((longer, state[1] + added, font))
    return found


def font_with(knowledge, state, added):
    """Return a font of a state for which added conditions hold, too, or None."""
    _, conditions, font = state
    if all([holds(condition, font) for condition in added]):
        return font
    return find_font(knowledge, conditions + added)


def next_is_beyond(letters, words, measure, layout):
    """Return the condition that the last line would be too wide with the next word."""
    behind = sum(layout)
    return beyond(letters, " ".join(words[behind - layout[-1]:behind + 1]), measure)


def layouts_given(knowledge, conditions, text, measure):
    """Return, ascending, the layouts of a text for the fitting fonts for which conditions hold."""
    words = text.split(" ")
    states = first_states(knowledge, conditions)
    for _ in range(len(words) - 1):
        longer = []
        for state in states:
            wide = next_is_beyond(knowledge[0], words, measure, state[0])
            longer.extend(states_after(knowledge, state, [wide]))
        states = longer
    return sorted([state[0] for state in states])

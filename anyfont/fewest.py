"""Standing layouts of the fewest lines, and bars, which show that there are none of fewer (stage 15)."""

from anyfont.probing import is_agreeing, seen_conditions
from anyfont.solving import find_font
from anyfont.texts import is_within
from anyfont.values import is_integer_within, is_tuple_of
from anyfont.widths import beyond


def find_standing(knowledge, probes, seen, text, measure, n):
    """Return a layout of at most n lines that stands, or None."""
    layout, _ = layout_and_bars(knowledge, probes, seen, text, measure)
    return layout if len(layout) <= n else None


def find_bars(knowledge, probes, seen, text, measure, n):
    """Return just n bars, or None if there are not so many."""
    _, bars = layout_and_bars(knowledge, probes, seen, text, measure)
    return bars[:n] if len(bars) >= n else None


def fewest_lines(knowledge, probes, seen, text, measure):
    """Return the least number of lines of a layout that stands."""
    layout, _ = layout_and_bars(knowledge, probes, seen, text, measure)
    return len(layout)


def layout_and_bars(knowledge, probes, seen, text, measure):
    """Return a layout that stands, and bars, one less than its lines, which show that none has fewer.

    Each line takes words as long as it fits in all agreeing fonts, and the first
    word that it cannot take is the last one of a bar. As a line with fewer words is
    never wider, no layout that stands is ahead of this one at any line.
    """
    letters = knowledge[0]
    words = text.split(" ")
    conditions = seen_conditions(letters, probes, seen)
    layout = [1]
    bars = []
    first = 0
    for last in range(1, len(words)):
        wide = beyond(letters, " ".join(words[first:last + 1]), measure)
        font = find_font(knowledge, conditions + [wide])
        if font is None:
            layout[-1] += 1
        else:
            bars.append((first, last, font))
            layout.append(1)
            first = last
    return tuple(layout), tuple(bars)


def are_bars(knowledge, probes, seen, text, measure, value):
    """Return whether any value is bars."""
    if not isinstance(value, tuple):
        return False
    if not all([is_bar(knowledge, probes, seen, text, measure, item) for item in value]):
        return False
    return all([bar[1] <= after[0] for bar, after in zip(value, value[1:])])


def is_bar(knowledge, probes, seen, text, measure, value):
    """Return whether any value is a bar."""
    if not is_tuple_of(value, 3):
        return False
    first, last, font = value
    words = text.split(" ")
    if not is_integer_within(first, 0, len(words) - 1) or not is_integer_within(last, 0, len(words) - 1):
        return False
    return (
        first < last
        and is_agreeing(knowledge, probes, seen, font)
        and not is_within(knowledge[0], " ".join(words[first:last + 1]), measure, font)
    )

"""Which numbers of lines are possible, and which words begin a line (stage 8)."""

from anyfont.layouts import layouts


def line_numbers(knowledge, text, measure):
    """Return the numbers of lines of the possible layouts, ascending and each once."""
    return sorted({len(layout) for layout in layouts(knowledge, text, measure)})


def line_starts(knowledge, text, measure):
    """Return for each word how often it begins a line: 'always', 'never' or 'sometimes'."""
    starts = [first_words(layout) for layout in layouts(knowledge, text, measure)]
    return [how_often(word, starts) for word in range(len(text.split(" ")))]


def first_words(layout):
    """Return the numbers of the words that begin the lines of a layout."""
    return [sum(layout[:line]) for line in range(len(layout))]


def how_often(word, starts):
    """Return whether a word is in each list, in none, or only in some."""
    if all([word in firsts for firsts in starts]):
        return "always"
    if any([word in firsts for firsts in starts]):
        return "sometimes"
    return "never"

"""Values that several test files share."""

TINY = ('im', (((0, 2, -1), 0, False), ((-1, 0, 0), -1, False)))
FIXED = (
    'im',
    (
        ((1, 0, 0), 1, False), ((-1, 0, 0), -1, False),
        ((0, 1, 0), 2, False), ((0, -1, 0), -2, False),
        ((0, 0, 1), 3, False), ((0, 0, -1), -3, False),
    ),
)

# The space has no width; in TRADE an i and an m have width 10 together.
FOUR = ('i', (((1, 0), 0, False),))
PRINTS = ((('layout', 'i i', 6), 1), (('layout', 'i i', 8), 1), (('layout', 'i i', 12), 1))
TRADE = ('im', (((1, 0, 0), 0, False), ((0, 1, 1), 10, False), ((0, -1, -1), -10, False)))
SHOWN = ((('layout', 'i i', 10), 1),)

LARGE = 10 ** 39 + 7


def nested(depth):
    """Return lists and tuples within each other."""
    value = None
    for level in range(depth):
        value = [value] if level % 2 else (value,)
    return value


# None of these is a condition, a font, a knowledge or a text.
ODD_VALUES = (
    None, True, False, 0, 1, -1, 10 ** 59, '', ' ', 'A B C', 'im\n', '\u00e9', '\U0001f600', '\x00',
    (), (1,), (1, 2), (1, 2, 3), (None, None), (None, None, None), ('im',), ('im', None), ('im', 3), ('im', 'im'),
    ((), ()), ((), (), ()), ([], []), [], [1, 2], [1, (1, 2, 4)], ['im', ()], [(0, 0, 0), 0, False],
    {}, {0: 1, 1: (1, 2, 4)}, {'im': ()}, {0: (0, 0, 0), 1: 0, 2: False}, {(1, 2): [3]},
    nested(20), tuple(range(20000)), 'x' * 20000, ['i'] * 20000,
)

NOTHING = ('im', ())
# At most 3 and at least 4; less than 3 and at least 3; less than nothing.
EMPTY = (
    ('im', (((0, 1, 0), 3, False), ((0, -1, 0), -4, False))),
    ('im', (((0, 1, 0), 3, True), ((0, -1, 0), -3, False))),
    ('im', (((0, 0, 0), -1, False),)),
)


def known(letters, *widths):
    """Return the knowledge that has just one fitting font, with these integer widths."""
    facts = []
    for place, width in enumerate(widths):
        factors = tuple(int(sign == place) for sign in range(len(widths)))
        facts.append((factors, width, False))
        facts.append((tuple(-factor for factor in factors), -width, False))
    return letters, tuple(facts)


def random_text(source, letters, words, most):
    """Return a text of so many words of at most so many letters."""
    return ' '.join(''.join(source.choices(letters, k=source.randint(1, most))) for _ in range(words))

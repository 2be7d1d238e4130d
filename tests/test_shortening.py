"""Point [13]: short forms for a font, and for all fitting fonts."""

import copy
import random
import unittest

from anyfont.shortening import short_form, short_forms
from anyfont.solving import has_font
from samples import EMPTY, FIXED, NOTHING, TINY, known, random_text
from slow import random_knowledge, slow_has_font
from slowlines import DecidingCase, narrow_row, slow_width, wide_row

FONT = (1, (1, 2, 3))


def slow_form(letters, text, mark, measure, font):
    """Return the short form, as the document words it."""
    if slow_width(letters, text, font) <= measure:
        return text
    fitting = [
        text[:size] for size in range(len(text)) if slow_width(letters, text[:size] + mark, font) <= measure
    ]
    return max(fitting, key=len) + mark if fitting else ''


def rows_by_form(letters, text, mark, measure):
    """Return a dict from each form to rows that hold for exactly the fonts that have it."""
    rows = {text: [narrow_row(letters, text, measure)]}
    passed = [wide_row(letters, text, measure)]
    for size in reversed(range(len(text))):
        form = text[:size] + mark
        # Two forms with the same signs are as wide, so that only the first one is ever taken.
        rows.setdefault(form, passed + [narrow_row(letters, form, measure)])
        passed = passed + [wide_row(letters, form, measure)]
    rows[''] = passed
    return rows


class ShortFormTest(unittest.TestCase):
    def check(self, letters, text, mark, measure, font, right=None):
        case = (letters, text, mark, measure, font)
        found = short_form(*case)
        self.assertEqual(found, slow_form(*case), case)
        if right is not None:
            self.assertEqual(found, right, case)

    def test_example(self):
        self.check('im', 'iiii', 'm', 7, FONT, 'iim')

    def test_a_text_that_fits_just_fits_and_just_does_not(self):
        for measure, right in ((999, 'im mi'), (12, 'im mi'), (11, 'im mi'), (10, 'im i')):
            self.check('im', 'im mi', 'i', measure, FONT, right)
        # In halves: the text is 11/2 wide.
        self.check('im', 'im mi', 'i', 6, (2, (1, 2, 3)), 'im mi')
        self.check('im', 'im mi', 'i', 5, (2, (1, 2, 3)), 'im i')

    def test_each_measure(self):
        for measure, right in (
            (1, ''), (2, ''), (3, 'm'), (4, 'm'), (5, 'im'), (6, 'im'), (7, 'im'), (8, 'im i'), (999, 'im i'),
        ):
            self.check('im', 'im i', 'm', measure, FONT, right)

    def test_a_beginning_that_ends_in_a_space(self):
        self.check('im', 'i mmm', 'm', 6, FONT, 'i m')
        self.check('im', 'i mmm', 'm', 5, FONT, 'im')
        self.check('im', 'im im mm', 'i', 9, FONT, 'im i')
        self.check('im', 'im im mm', 'm', 9, FONT, 'im m')
        # A space without a width is kept, as the beginning is the longest one.
        self.check('im', 'im mm', 'i', 7, (1, (0, 2, 3)), 'im i')
        self.check('im', 'im mm', 'i', 6, (1, (0, 2, 3)), 'ii')

    def test_the_empty_beginning(self):
        self.check('im', 'mm', 'i', 2, FONT, 'i')
        self.check('im', 'mm', 'ii', 4, FONT, 'ii')
        self.check('im', 'm', 'i', 2, FONT, 'i')
        self.check('im', 'mmmmmmmmm mm', 'iii', 8, FONT, 'iii')

    def test_no_beginning_that_fits(self):
        self.check('im', 'mm', 'i', 1, FONT, '')
        self.check('im', 'i', 'm', 1, FONT, '')
        self.check('im', 'mm', 'mmm', 5, FONT, '')
        self.check('im', 'i', 'iii', 1, FONT, '')

    def test_a_mark_as_long_as_the_text_and_longer(self):
        self.check('im', 'mmm', 'iii', 8, FONT, 'iii')
        self.check('im', 'mmm', 'iii', 6, FONT, 'iii')
        self.check('im', 'mmm', 'iii', 5, FONT, '')
        self.check('im', 'mmm', 'mmm', 8, FONT, '')
        self.check('im', 'mmm', 'mmm', 9, FONT, 'mmm')
        self.check('im', 'm', 'iii', 2, FONT, '')
        # The mark is narrower than the only letter.
        self.check('im', 'm', 'iii', 2, (1, (9, 0, 3)), 'iii')

    def test_only_proper_beginnings(self):
        # The text with its mark would be as wide as the text, which does not fit.
        self.check('im', 'mmm', 'i', 8, (1, (0, 0, 3)), 'mmi')
        self.check('im', 'mi', 'i', 2, (1, (0, 0, 3)), 'i')

    def test_widths_of_0(self):
        self.check('im', 'im mi im', 'mmm', 1, (1, (0, 0, 0)), 'im mi im')
        self.check('im', 'iiimi', 'i', 1, (1, (0, 0, 3)), 'iiii')
        self.check('im', 'i i i mi', 'i', 1, (1, (0, 0, 3)), 'i i i i')

    def test_arbitrary_texts(self):
        source = random.Random(1)
        for _ in range(500):
            letters = source.choice(('a', 'im', 'abc', 'abcd'))
            unit = source.randint(1, 4)
            font = (unit, tuple(source.choice((0, source.randint(0, 20 * unit))) for _ in range(len(letters) + 1)))
            text = random_text(source, letters, source.randint(1, 4), 5)
            mark = ''.join(source.choices(letters, k=source.randint(1, 3)))
            self.check(letters, text, mark, source.randint(1, source.choice((10, 50, 300))), font)


class ShortFormsTest(DecidingCase):
    def check(self, knowledge, text, mark, measure, right=None):
        """Check the short forms, by a font for each one and a refutation for each other form."""
        case = (knowledge, text, mark, measure)
        found = short_forms(*case)
        self.assertIs(type(found), list)
        letters = knowledge[0]
        possible = []
        for form, rows in rows_by_form(letters, text, mark, measure).items():
            font = self.decide(knowledge, rows)
            if font is not None:
                self.assertEqual(slow_form(letters, text, mark, measure, font), form, case)
                possible.append(form)
        self.assertEqual(found, sorted(possible), case)
        if right is not None:
            self.assertEqual(found, right, case)

    def test_examples(self):
        self.check(FIXED, 'iiii', 'm', 7, ['iim'])
        self.check(FIXED, 'ii', 'm', 2, [''])

    def test_ascending_each_once_and_complete(self):
        self.check(NOTHING, 'iiii', 'm', 7, ['', 'iiii', 'iiim', 'iim', 'im', 'm'])
        self.check(NOTHING, 'i i', 'm', 7, ['', 'i i', 'i m', 'im', 'm'])
        self.check(('i', ()), 'iii', 'i', 7, ['', 'i', 'ii', 'iii'])
        self.check(('i', ()), 'iii', 'ii', 7, ['', 'ii', 'iii'])
        self.check(('i', ()), 'iii', 'iii', 7, ['', 'iii'])
        self.check(('i', ()), 'i', 'iii', 7, ['', 'i'])
        self.check(('i', ()), 'i', 'iii', 20, ['i'])
        self.check(('i', ()), 'i', 'i', 19, ['', 'i'])

    def test_a_form_that_fits_just_fits_and_just_does_not(self):
        for strict in (False, True):
            high = ('im', (((0, 2, 0), 7, strict),))
            self.check(high, 'ii', 'i', 7, ['ii'])
            self.check(high, 'ii', 'i', 6, ['i', 'ii'])
            low = ('im', (((0, -2, 0), -7, strict),))
            self.check(low, 'ii', 'i', 8, ['', 'i', 'ii'])
            self.check(low, 'ii', 'i', 7, ['', 'i'] if strict else ['', 'i', 'ii'])
            self.check(low, 'ii', 'i', 6, ['', 'i'])

    def test_the_same_signs_as_the_text(self):
        # m with the mark i is as wide as the text, so it never takes its place.
        self.check(NOTHING, 'mi', 'i', 7, ['', 'i', 'mi'])
        self.check(NOTHING, 'im', 'i', 7, ['', 'i', 'ii', 'im'])

    def test_widths_of_0(self):
        self.check(('im', (((1, 1, 1), 0, False),)), 'im i mm', 'mmm', 1, ['im i mm'])
        self.check(('im', (((1, 1, 0), 0, False),)), 'ii mi i', 'i', 1, ['ii i', 'ii mi i'])
        self.check(('im', (((1, 1, 0), 0, False),)), 'ii mi i', 'm', 1, ['', 'ii mi i'])

    def test_all_widths_known(self):
        for measure in range(1, 30):
            right = slow_form('im', 'im i mmi', 'mi', measure, FONT)
            self.check(known('im', 1, 2, 3), 'im i mmi', 'mi', measure, [right])

    def test_without_a_fitting_font(self):
        for knowledge in EMPTY:
            for text in ('i', 'im im', 'mmm i mmm'):
                self.check(knowledge, text, 'i', 9, [])

    def test_the_longest_text(self):
        text = ' '.join(['abcdabcda'] * 8)
        found = short_forms(('abcd', ()), text, 'dcb', 30)
        self.assertEqual(found, sorted([text, ''] + [text[:size] + 'dcb' for size in range(len(text))]))
        self.assertEqual(short_forms(known('abcd', 1, 2, 3, 4, 5), text, 'dcb', 30), ['abcdadcb'])

    def test_against_corners(self):
        source = random.Random(2)
        for _ in range(25):
            letters = source.choice(('a', 'im'))
            knowledge = random_knowledge(source, letters, source.randint(0, 2))
            text = random_text(source, letters, source.randint(1, 2), 2)
            mark = ''.join(source.choices(letters, k=source.randint(1, 3)))
            measure = source.randint(1, 60)
            right = [
                form for form, rows in rows_by_form(letters, text, mark, measure).items()
                if slow_has_font(knowledge, rows)
            ]
            case = (knowledge, text, mark, measure)
            self.assertEqual(short_forms(*case), sorted(right), case)

    def test_arbitrary_texts(self):
        source = random.Random(3)
        for _ in range(80):
            letters = source.choice(('a', 'im', 'abc', 'abcd'))
            knowledge = random_knowledge(source, letters, source.randint(0, 5))
            text = random_text(source, letters, source.randint(1, 4), 5)
            mark = ''.join(source.choices(letters, k=source.randint(1, 3)))
            self.check(knowledge, text, mark, source.randint(1, source.choice((10, 100, 300))))
            self.assertEqual(bool(short_forms(knowledge, text, mark, 9)), has_font(knowledge))


class ArgumentsTest(unittest.TestCase):
    def test_lists_are_new_and_arguments_do_not_change(self):
        before = copy.deepcopy(TINY)
        right = short_forms(TINY, 'im i', 'm', 30)
        short_forms(TINY, 'im i', 'm', 30).append('x')
        short_forms(FIXED, 'im i', 'm', 3)
        short_form('im', 'im i', 'm', 3, FONT)
        self.assertEqual(short_forms(copy.deepcopy(TINY), 'im i', 'm', 30), right)
        self.assertEqual(TINY, before)


if __name__ == '__main__':
    unittest.main()

"""Points [7], [8]: texts, counts, widths and lines."""

import itertools
import unittest
from fractions import Fraction
from math import gcd

from anyfont.texts import counts, is_text, lines, width
from samples import LARGE, ODD_VALUES

FONT = (1, (1, 2, 4))


def slow_lines(text, measure, widths):
    """Return the lines by the words of point [8], for widths given by sign."""
    words = text.split(' ')
    found = []
    while words:
        taken = 1
        while taken < len(words) and sum(widths[sign] for sign in ' '.join(words[:taken + 1])) <= measure:
            taken += 1
        found.append(' '.join(words[:taken]))
        words = words[taken:]
    return found


class TextTest(unittest.TestCase):
    def test_number_of_words(self):
        for size in range(1, 12):
            with self.subTest(size=size):
                self.assertIs(is_text('im', ' '.join(['im'] * size)), size <= 8)

    def test_none(self):
        self.assertIs(is_text('im', ''), False)
        self.assertIs(is_text('im', ' '), False)
        self.assertIs(is_text('im', '  '), False)

    def test_lengths_of_words(self):
        for size in range(1, 13):
            with self.subTest(size=size):
                self.assertIs(is_text('im', 'i' * size), size <= 9)
                self.assertIs(is_text('im', 'i ' + 'm' * size), size <= 9)
                self.assertIs(is_text('im', 'm' * size + ' i'), size <= 9)
                self.assertIs(is_text('im', 'm ' + 'im' * size + ' i'), size <= 4)

    def test_longest(self):
        self.assertIs(is_text('im', ' '.join(['mmmmiiiii'] * 8)), True)

    def test_spaces(self):
        for text in ('i  m', ' i m', 'i m ', ' i', 'i ', 'i m  i', 'i   m', ' i m '):
            with self.subTest(text=text):
                self.assertIs(is_text('im', text), False)

    def test_example(self):
        self.assertIs(is_text('im', 'i  m'), False)
        self.assertIs(is_text('im', 'i m'), True)

    def test_signs_that_are_no_letters(self):
        for text in ('a', 'ia', 'i a', 'I', 'i\nm', 'i\tm', 'i\u00a0m', 'i,m', '\u00e9', 'i m\n', 'im\x00', '\ud800'):
            with self.subTest(text=text):
                self.assertIs(is_text('im', text), False)

    def test_letters_decide(self):
        self.assertIs(is_text('i', 'im'), False)
        self.assertIs(is_text('m', 'im'), False)
        self.assertIs(is_text('im', 'im'), True)
        self.assertIs(is_text('!~', '!~ ~!'), True)
        self.assertIs(is_text('abcd', 'd c b a'), True)

    def test_any_other_value(self):
        for value in ODD_VALUES + (('i', 'm'), ['i', 'm'], ['i m'], {'i m': 1}, b'i m', (('i',),)):
            self.assertIs(is_text('im', value), False, value)


class CountsTest(unittest.TestCase):
    def test_examples(self):
        self.assertEqual(counts('im', 'im mi'), (1, 2, 2))

    def test_empty_and_spaces(self):
        self.assertEqual(counts('im', ''), (0, 0, 0))
        self.assertEqual(counts('im', ' '), (1, 0, 0))
        self.assertEqual(counts('im', '    '), (4, 0, 0))
        self.assertEqual(counts('im', ' i  '), (3, 1, 0))

    def test_one_for_each_sign(self):
        self.assertEqual(counts('a', 'aaa'), (0, 3))
        self.assertEqual(counts('abcd', 'dd b'), (1, 0, 1, 0, 2))
        self.assertEqual(counts('!~', '~~!'), (0, 1, 2))

    def test_equal_letters_beside_each_other(self):
        for size in range(61):
            self.assertEqual(counts('im', 'i' * size + ' ' * size), (size, size, 0))

    def test_is_a_tuple_of_integers(self):
        found = counts('im', 'i')
        self.assertIs(type(found), tuple)
        self.assertEqual([type(many) for many in found], [int, int, int])


class WidthTest(unittest.TestCase):
    def test_example(self):
        self.assertEqual(width('im', 'i m', (2, (1, 2, 6))), (9, 2))

    def test_zero(self):
        for font in (FONT, (LARGE, (1, 0, 0)), (7, (0, 0, 3))):
            self.assertEqual(width('im', '', font), (0, 1))
        self.assertEqual(width('im', 'iii', (9, (1, 0, 0))), (0, 1))
        self.assertEqual(width('im', ' ', (9, (0, 1, 0))), (0, 1))

    def test_lowest_terms(self):
        self.assertEqual(width('im', 'ii', (2, (1, 1, 6))), (1, 1))
        self.assertEqual(width('im', 'iiii', (6, (1, 1, 6))), (2, 3))
        self.assertEqual(width('im', 'i', (6, (1, 1, 6))), (1, 6))
        self.assertEqual(width('im', 'm m', FONT), (9, 1))

    def test_large_units(self):
        self.assertEqual(width('im', 'i', (LARGE, (0, 1, 0))), (1, LARGE))
        self.assertEqual(width('im', 'i' * 9, (LARGE, (0, 20 * LARGE - 1, 0))), (180 * LARGE - 9, LARGE))
        self.assertEqual(width('im', 'im', (LARGE, (0, 1, LARGE - 1))), (1, 1))

    def test_against_fractions(self):
        for unit, widths, string in itertools.product(
            (1, 2, 6), itertools.product((0, 1, 4, 9), repeat=3), ('', ' ', 'i m', 'mimi', ' ii ', 'mmm m')
        ):
            total = sum(Fraction(widths[' im'.index(sign)], unit) for sign in string)
            found = width('im', string, (unit, widths))
            self.assertEqual(found, (total.numerator, total.denominator))
            self.assertIs(type(found), tuple)
            self.assertEqual(gcd(*found), 1)


class LinesTest(unittest.TestCase):
    def test_examples(self):
        self.assertEqual(lines('im', 'im im i', 7, FONT), ['im', 'im', 'i'])
        self.assertEqual(lines('im', 'im im i', 9, FONT), ['im', 'im i'])

    def test_just_fits_and_just_not(self):
        self.assertEqual(lines('im', 'im im', 13, FONT), ['im im'])
        self.assertEqual(lines('im', 'im im', 12, FONT), ['im', 'im'])
        for part, right in ((-1, ['i m']), (0, ['i m']), (1, ['i', 'm'])):
            font = (LARGE, (LARGE, 2 * LARGE + part, 4 * LARGE))
            with self.subTest(part=part):
                self.assertEqual(lines('im', 'i m', 7, font), right)

    def test_the_space_counts(self):
        self.assertEqual(lines('im', 'i i', 4, (1, (0, 2, 4))), ['i i'])
        self.assertEqual(lines('im', 'i i', 4, (2, (1, 4, 8))), ['i', 'i'])

    def test_a_word_wider_than_the_measure(self):
        self.assertEqual(lines('im', 'mmm', 5, FONT), ['mmm'])
        self.assertEqual(lines('im', 'i mmm i', 6, FONT), ['i', 'mmm', 'i'])
        self.assertEqual(lines('im', 'mmm mmm', 1, FONT), ['mmm', 'mmm'])

    def test_a_wide_word_takes_nothing_of_width_zero(self):
        self.assertEqual(lines('im', 'm i', 3, (1, (0, 0, 4))), ['m', 'i'])
        self.assertEqual(lines('im', 'm i', 4, (1, (0, 0, 4))), ['m i'])

    def test_one_word(self):
        for measure in (1, 6, 7, 999):
            self.assertEqual(lines('im', 'im', measure, FONT), ['im'])

    def test_measures_at_the_edges(self):
        text = 'im i m ii mm im i m'
        self.assertEqual(lines('im', text, 1, FONT), text.split(' '))
        self.assertEqual(lines('im', text, 999, FONT), [text])
        self.assertEqual(lines('im', text, 1, (1, (0, 0, 0))), [text])
        self.assertEqual(lines('im', 'i i', 1, (3, (1, 1, 9))), ['i i'])
        self.assertEqual(lines('im', 'i i', 1, (3, (2, 1, 9))), ['i', 'i'])
        widest = ' '.join(['mmmmmmmmm'] * 6)
        self.assertEqual(lines('im', widest, 999, (1, (1, 2, 20))), [' '.join(['mmmmmmmmm'] * 5), 'mmmmmmmmm'])

    def test_later_lines_begin_behind_the_last_line(self):
        self.assertEqual(lines('im', 'i i i i i', 5, FONT), ['i i', 'i i', 'i'])
        self.assertEqual(lines('im', 'i m i m i', 7, FONT), ['i m', 'i m', 'i'])

    def test_a_short_word_does_not_go_back(self):
        self.assertEqual(lines('im', 'i mm i', 5, FONT), ['i', 'mm', 'i'])

    def test_new_list(self):
        first = lines('im', 'im im i', 9, FONT)
        first.append('more')
        first[0] = 'other'
        second = lines('im', 'im im i', 9, FONT)
        self.assertEqual(second, ['im', 'im i'])
        self.assertIs(type(second), list)
        self.assertIsNot(lines('im', 'im', 9, FONT), lines('im', 'im', 9, FONT))

    def test_against_the_words_of_the_document(self):
        texts = [' '.join(words) for size in (1, 2, 3, 4) for words in itertools.product(('i', 'mi', 'mm'), repeat=size)]
        for unit, widths, measure in itertools.product((1, 2), ((0, 1, 3), (1, 2, 4), (3, 0, 5)), (1, 3, 4, 7, 12)):
            by_sign = {sign: Fraction(part, unit) for sign, part in zip(' im', widths)}
            for text in texts:
                found = lines('im', text, measure, (unit, widths))
                self.assertEqual(found, slow_lines(text, measure, by_sign), (text, measure, unit, widths))


if __name__ == '__main__':
    unittest.main()

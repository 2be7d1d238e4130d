"""Point [2]: the errors of the interface."""

import unittest

from anyfont import errors
from anyfont.errors import (
    AnyfontError, DeskFull, InvalidFact, InvalidIndex, InvalidLabel, InvalidName, NameInUse, NoFont,
)

WITH_ATTRIBUTE = ((InvalidName, 'name'), (NameInUse, 'name'), (DeskFull, 'limit'), (InvalidIndex, 'index'))
WITH_MESSAGE = (InvalidLabel, InvalidFact, NoFont)
ALL = tuple(kind for kind, _ in WITH_ATTRIBUTE) + WITH_MESSAGE
VALUES = (
    'one', '', 0, 8, -1, 10 ** 59, True, False, None, (), ('im', 3), [], [1, [2]], {}, {'a': [1]}, {(1, 2): None},
)


class ErrorsTest(unittest.TestCase):
    def test_the_base_is_a_value_error(self):
        self.assertEqual(AnyfontError.__bases__, (ValueError,))

    def test_each_is_a_direct_subclass_of_the_base(self):
        for kind in ALL:
            with self.subTest(kind=kind):
                self.assertEqual(kind.__bases__, (AnyfontError,))

    def test_each_is_caught_as_itself_and_as_no_other(self):
        for kind in ALL:
            for other in ALL:
                with self.subTest(kind=kind, other=other):
                    self.assertEqual(isinstance(kind('x'), other), kind is other)
            for base in (AnyfontError, ValueError):
                with self.assertRaises(base):
                    raise kind('x')

    def test_attributes_hold_the_argument_whatever_it_is(self):
        for kind, attribute in WITH_ATTRIBUTE:
            for value in VALUES:
                with self.subTest(kind=kind, value=value):
                    held = getattr(kind(value), attribute)
                    self.assertIs(held, value)

    def test_arguments_are_not_modified(self):
        for kind, attribute in WITH_ATTRIBUTE:
            value = {'a': [1, (2, [3])]}
            self.assertEqual(getattr(kind(value), attribute), {'a': [1, (2, [3])]})
            self.assertEqual(value, {'a': [1, (2, [3])]})

    def test_two_errors_do_not_share_an_attribute(self):
        first, second = InvalidName('one'), InvalidName('two')
        self.assertEqual((first.name, second.name), ('one', 'two'))

    def test_messages(self):
        for kind in WITH_MESSAGE:
            self.assertEqual(str(kind('why')), 'why')
        for kind, _ in WITH_ATTRIBUTE:
            for value in VALUES:
                self.assertIsInstance(str(kind(value)), str)

    def test_the_errors_are_defined_there(self):
        for kind in ALL + (AnyfontError,):
            self.assertEqual(kind.__module__, errors.__name__)


if __name__ == '__main__':
    unittest.main()

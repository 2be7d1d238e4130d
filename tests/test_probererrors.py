"""Point [24]: the classes of the errors of probers."""

import unittest

from anyfont import errors, probererrors
from anyfont.errors import AnyfontError
from anyfont.probererrors import AlreadySeen, InvalidAnswer, NoAgreement

ATTRIBUTES = {AlreadySeen: 'index', InvalidAnswer: 'answer', NoAgreement: 'refutation'}


class ProberErrorsTest(unittest.TestCase):
    def test_direct_subclasses(self):
        for kind in ATTRIBUTES:
            self.assertEqual(kind.__bases__, (AnyfontError,))
            self.assertTrue(issubclass(kind, ValueError))
            self.assertEqual(kind.__module__, 'anyfont.probererrors')

    def test_none_is_a_subclass_of_another_error(self):
        kinds = {
            value for module in (errors, probererrors) for value in vars(module).values()
            if isinstance(value, type) and value is not AnyfontError
        }
        self.assertGreaterEqual(len(kinds), 10)
        for kind in kinds:
            for other in kinds - {kind}:
                self.assertFalse(issubclass(kind, other), (kind, other))

    def test_attributes(self):
        for kind, name in ATTRIBUTES.items():
            for value in (0, 1, True, False, None, 'x', (), (1, 1), (0, 1, 1), [1, [2]], {'a': [1]}, 10 ** 59):
                error = kind(value)
                held = getattr(error, name)
                self.assertEqual(held, value)
                self.assertIs(type(held), type(value))
                with self.assertRaises(kind) as caught:
                    raise error
                self.assertEqual(getattr(caught.exception, name), value)
                self.assertIsInstance(str(error), str)

    def test_each_object_has_its_own(self):
        first, second = AlreadySeen(1), AlreadySeen(2)
        self.assertEqual([first.index, second.index], [1, 2])

    def test_caught_by_their_base(self):
        for kind in ATTRIBUTES:
            for base in (AnyfontError, ValueError):
                with self.assertRaises(base):
                    raise kind(0)


if __name__ == '__main__':
    unittest.main()

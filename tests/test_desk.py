"""Points [2] and [14]: a desk with its labels, its errors, and undo."""

import copy
import random
import unittest

from anyfont.desk import Desk
from anyfont.errors import DeskFull, InvalidFact, InvalidIndex, InvalidLabel, InvalidName, NameInUse, NoFont
from anyfont.numbers import line_numbers
from anyfont.solving import has_font
from samples import FIXED, NOTHING, ODD_VALUES, TINY, known, random_text

ONE = ('im im', 30, 1)
TWO = ('im mi i', 40, 2)
EIGHT_NAMES = ('a', 'b', 'c', 'd', 'e', 'f', 'g', 'h')
NARROW = ((1, 0, 2), 15, False)
NO_NAMES = (
    '', 'abcdefghi', 'A', 'aB', 'a b', ' ', 'a ', 'a1', '1', 'a_', '`', '{', 'a\n', '\u00e4', 'a\u00e4', 'i-m', '\x00',
) + tuple(value for value in ODD_VALUES if not isinstance(value, str))
NO_CONDITIONS = (
    ((0, 0), 0, False), ((0, 0, 0, 0), 0, False), ((0, 0, 100), 0, False), ((0, -100, 0), 0, False),
    ((0, 0, 0), 10000, False), ((0, 0, 0), -10000, False), ((0, 0, 0), 0, 0), ((0, 0, 0), 0, 1), ((0, 0, 0), 0, None),
    ((0, 0, 0), 0), ((0, 0, 0), 0, False, False), ([0, 0, 0], 0, False), [(0, 0, 0), 0, False],
    ((0, True, 0), 0, False), ((0, 0, 0), False, False), ((0, 0, None), 0, False), (None, 0, False), ('imm', 0, False),
) + ODD_VALUES
NO_LABELS = (
    ('im im', 30), ('im im', 30, 1, 1), ['im im', 30, 1], ('im  im', 30, 1), ('', 30, 1), (' im', 30, 1), ('ab', 30, 1),
    ('iiiiiiiiii', 30, 1), ('i i i i i i i i i', 30, 1), (None, 30, 1), (('im',), 30, 1), (7, 30, 1), ('im im', 0, 1),
    ('im im', 1000, 1), ('im im', -1, 1), ('im im', True, 1), ('im im', None, 1), ('im im', '30', 1),
    ('im im', (30, 1), 1), ('im im', 30, 0), ('im im', 30, 9), ('im im', 30, -1), ('im im', 30, True),
    ('im im', 30, None), ('im im', 30, '1'), ('im im', 10 ** 59, 1), ('im im', 30, 10 ** 59),
) + ODD_VALUES


def state(desk):
    """Return all that the methods of a desk tell."""
    names = desk.names()
    return desk.knowledge(), names, [desk.label(name) for name in names]


def everything_undone(desk):
    """Return what undo returns until there is nothing to revert, with the state after each."""
    told = []
    while True:
        call = desk.undo()
        told.append((call, state(desk)))
        if call is None:
            return told


class DeskCase(unittest.TestCase):
    def raises(self, kind, call, *arguments, **attributes):
        """Check the error of a call, with its class itself and its attributes."""
        with self.assertRaises(kind) as caught:
            call(*arguments)
        self.assertIs(type(caught.exception), kind, arguments)
        for name, value in attributes.items():
            held = getattr(caught.exception, name)
            self.assertEqual(held, value)
            self.assertIs(type(held), type(value))

    def full_desk(self):
        desk = Desk(TINY)
        for name in EIGHT_NAMES:
            desk.add(name, ONE)
        return desk


class ExampleTest(DeskCase):
    def test_example(self):
        desk = Desk(TINY)
        desk.add('one', ('im im', 30, 1))
        self.assertEqual([desk.numbers('one'), desk.in_danger()], [[1, 2], ['one']])
        desk.learn(((1, 0, 2), 15, False))
        self.assertEqual(
            [desk.numbers('one'), desk.in_danger(), desk.undo(), desk.in_danger()],
            [[1], [], 'learn', ['one']],
        )
        self.raises(NoFont, desk.learn, ((1, 0, 0), 0, False))

    def test_a_new_desk(self):
        desk = Desk(TINY)
        self.assertEqual([desk.names(), desk.knowledge(), desk.in_danger(), desk.undo()], [[], TINY, [], None])

    def test_calls_return_none(self):
        desk = Desk(TINY)
        self.assertIsNone(desk.add('one', ONE))
        self.assertIsNone(desk.learn(NARROW))
        self.assertIsNone(desk.forget(2))
        self.assertIsNone(desk.drop('one'))


class AddTest(DeskCase):
    def test_names_of_one_and_eight_characters(self):
        desk = Desk(TINY)
        for name in ('z', 'a', 'zzzzzzzz', 'abcdefgh', 'one'):
            desk.add(name, ONE)
        self.assertEqual(desk.names(), ['a', 'abcdefgh', 'one', 'z', 'zzzzzzzz'])

    def test_no_names(self):
        desk = Desk(TINY)
        for name in NO_NAMES:
            for label in (ONE, None):
                self.raises(InvalidName, desk.add, name, label, name=name)
        self.assertEqual(state(desk), (TINY, [], []))

    def test_a_name_in_use(self):
        desk = Desk(TINY)
        desk.add('one', ONE)
        for label in (ONE, TWO, None):
            self.raises(NameInUse, desk.add, 'one', label, name='one')
        self.assertEqual(desk.label('one'), ONE)
        desk.drop('one')
        desk.add('one', TWO)
        self.assertEqual(desk.label('one'), TWO)

    def test_a_full_desk(self):
        desk = self.full_desk()
        self.assertEqual(desk.names(), list(EIGHT_NAMES))
        self.raises(DeskFull, desk.add, 'i', ONE, limit=8)

    def test_a_full_desk_after_a_drop_and_after_an_undo(self):
        desk = self.full_desk()
        desk.drop('c')
        desk.add('i', TWO)
        self.raises(DeskFull, desk.add, 'j', ONE, limit=8)
        self.assertEqual(desk.undo(), 'add')
        desk.add('k', TWO)
        self.raises(DeskFull, desk.add, 'j', ONE, limit=8)
        self.assertEqual([desk.undo(), desk.undo()], ['add', 'drop'])
        self.raises(DeskFull, desk.add, 'j', ONE, limit=8)
        self.assertEqual(desk.undo(), 'add')
        desk.add('j', ONE)
        self.assertEqual(desk.names(), ['a', 'b', 'c', 'd', 'e', 'f', 'g', 'j'])

    def test_no_labels(self):
        desk = Desk(TINY)
        for label in NO_LABELS:
            self.raises(InvalidLabel, desk.add, 'one', label)
        self.assertEqual(state(desk), (TINY, [], []))

    def test_labels_at_the_limits(self):
        desk = Desk(TINY)
        for name, label in zip('abcdef', (
            ('i', 1, 1), ('i', 999, 8), ('mmmmmmmmm', 1, 8), ('i i i i i i i i', 999, 1),
            (' '.join(['imimimimi'] * 8), 500, 5), ('i m', 1, 1),
        )):
            desk.add(name, label)
            self.assertEqual(desk.label(name), label)

    def test_labels_are_for_the_letters(self):
        desk = Desk(('im', ()))
        for text in ('a', 'ima', 'im a', 'Im', 'i-m'):
            self.raises(InvalidLabel, desk.add, 'one', (text, 30, 1))
        desk = Desk(('am', ()))
        desk.add('one', ('am a', 30, 1))
        self.raises(InvalidLabel, desk.add, 'two', ('im', 30, 1))

    def test_the_order_of_the_errors(self):
        desk = self.full_desk()
        for label in (ONE, None, ('ab', 30, 1)):
            self.raises(InvalidName, desk.add, 'A', label, name='A')
            self.raises(InvalidName, desk.add, ['a'], label, name=['a'])
            self.raises(NameInUse, desk.add, 'a', label, name='a')
            self.raises(DeskFull, desk.add, 'i', label, limit=8)
        desk.drop('a')
        self.raises(InvalidName, desk.add, 'A', None, name='A')
        self.raises(NameInUse, desk.add, 'b', None, name='b')
        self.raises(InvalidLabel, desk.add, 'a', None)


class NamesOfLabelsTest(DeskCase):
    def test_drop_label_and_numbers_raise_for_what_is_no_name_of_a_label(self):
        desk = Desk(TINY)
        desk.add('one', ONE)
        for name in NO_NAMES + ('two', 'on', 'onee', 'ONE'):
            for call in (desk.drop, desk.label, desk.numbers):
                self.raises(InvalidName, call, name, name=name)
        self.assertEqual(state(desk), (TINY, ['one'], [ONE]))
        desk.drop('one')
        for call in (desk.drop, desk.label, desk.numbers):
            self.raises(InvalidName, call, 'one', name='one')

    def test_many_calls_for_one_name(self):
        desk = Desk(TINY)
        labels = [('im im', measure, 1) for measure in range(1, 40)]
        for label in labels:
            desk.add('one', label)
            self.raises(NameInUse, desk.add, 'one', ONE, name='one')
            self.assertEqual(desk.label('one'), label)
            desk.drop('one')
            self.raises(InvalidName, desk.drop, 'one', name='one')
        for label in reversed(labels):
            self.assertEqual(desk.undo(), 'drop')
            self.assertEqual(desk.label('one'), label)
            self.assertEqual(desk.undo(), 'add')
            self.assertEqual(desk.names(), [])
        self.assertIsNone(desk.undo())


class LearnTest(DeskCase):
    def test_a_fact_stands_at_the_end(self):
        desk = Desk(TINY)
        desk.learn(NARROW)
        self.assertEqual(desk.knowledge(), ('im', TINY[1] + (NARROW,)))
        desk.learn(NARROW)
        self.assertEqual(desk.knowledge(), ('im', TINY[1] + (NARROW, NARROW)))

    def test_no_facts(self):
        desk = Desk(TINY)
        for fact in NO_CONDITIONS:
            self.raises(InvalidFact, desk.learn, fact)
        self.assertEqual(desk.knowledge(), TINY)
        self.assertIsNone(desk.undo())

    def test_eight_facts(self):
        desk = Desk(FIXED)
        desk.learn(((0, 0, 0), 0, False))
        desk.learn(((0, 0, 0), 1, True))
        for fact in (((0, 0, 0), 0, False), ((1, 0, 0), 0, False), None):
            self.raises(InvalidFact, desk.learn, fact)
        desk.forget(0)
        self.raises(NoFont, desk.learn, ((0, 1, 0), 1, False))
        self.raises(InvalidFact, desk.learn, None)
        desk.learn(((1, 0, 0), 1, False))
        self.raises(InvalidFact, desk.learn, ((0, 0, 0), 0, False))
        self.assertEqual(desk.undo(), 'learn')
        desk.learn(((1, 0, 0), 2, False))
        self.assertEqual([desk.undo(), desk.undo()], ['learn', 'forget'])
        self.raises(InvalidFact, desk.learn, ((0, 0, 0), 0, False))

    def test_no_font_would_fit(self):
        desk = Desk(TINY)
        for fact in (((1, 0, 0), 0, False), ((1, 0, 0), 1, True), ((0, 0, 0), 0, True), ((0, -1, 0), -10, True)):
            self.raises(NoFont, desk.learn, fact)
        self.assertEqual(desk.knowledge(), TINY)
        desk.learn(((0, -1, 0), -10, False))
        self.raises(NoFont, desk.learn, ((0, 0, 1), 20, True))


class ForgetTest(DeskCase):
    def test_each_index(self):
        for index in range(6):
            desk = Desk(FIXED)
            desk.forget(index)
            self.assertEqual(desk.knowledge(), ('im', FIXED[1][:index] + FIXED[1][index + 1:]))

    def test_no_indices(self):
        for knowledge, size in ((NOTHING, 0), (TINY, 2), (known('abc', 1, 2, 3, 4), 8)):
            desk = Desk(knowledge)
            for index in (
                -1, size, size + 1, -size - 1, 10 ** 59, -10 ** 59, True, False, None, '0', (0,), [0], {0: 0}, '',
            ):
                self.raises(InvalidIndex, desk.forget, index, index=index)
            for index in ODD_VALUES:
                if type(index) is not int:
                    self.raises(InvalidIndex, desk.forget, index, index=index)
            self.assertEqual(desk.knowledge(), knowledge)
            self.assertIsNone(desk.undo())

    def test_until_nothing_is_known(self):
        desk = Desk(TINY)
        desk.forget(0)
        desk.forget(0)
        self.assertEqual(desk.knowledge(), NOTHING)
        self.raises(InvalidIndex, desk.forget, 0, index=0)
        desk.learn(NARROW)
        desk.forget(0)
        self.assertEqual(desk.knowledge(), NOTHING)


class UndoTest(DeskCase):
    def test_it_names_the_calls_from_the_last_to_the_first(self):
        desk = Desk(TINY)
        states = [state(desk)]
        for call, arguments in (
            (desk.add, ('one', ONE)), (desk.learn, (NARROW,)), (desk.add, ('two', TWO)), (desk.forget, (0,)),
            (desk.drop, ('one',)), (desk.add, ('one', TWO)), (desk.learn, (((0, 1, 0), 5, True),)),
        ):
            call(*arguments)
            states.append(state(desk))
        told = everything_undone(desk)
        self.assertEqual(
            [call for call, _ in told], ['learn', 'add', 'drop', 'forget', 'add', 'learn', 'add', None],
        )
        self.assertEqual([after for _, after in told], states[-2::-1] + [states[0]])
        self.assertEqual([desk.undo(), desk.undo()], [None, None])
        self.assertEqual(state(desk), (TINY, [], []))

    def test_calls_after_an_undo(self):
        desk = Desk(TINY)
        desk.add('one', ONE)
        desk.add('two', TWO)
        self.assertEqual(desk.undo(), 'add')
        desk.learn(NARROW)
        desk.drop('one')
        self.assertEqual([desk.undo(), desk.undo(), desk.undo(), desk.undo()], ['drop', 'learn', 'add', None])

    def test_calls_that_raise_are_not_reverted(self):
        desk = Desk(TINY)
        desk.add('one', ONE)
        before = copy.deepcopy(state(desk))
        self.raises(NameInUse, desk.add, 'one', TWO)
        self.raises(InvalidName, desk.add, 'One', TWO)
        self.raises(InvalidLabel, desk.add, 'two', ('x', 1, 1))
        self.raises(InvalidName, desk.drop, 'two')
        self.raises(InvalidFact, desk.learn, None)
        self.raises(NoFont, desk.learn, ((1, 0, 0), 0, False))
        self.raises(InvalidIndex, desk.forget, 2)
        self.raises(InvalidName, desk.label, 'two')
        self.raises(InvalidName, desk.numbers, 'two')
        other = Desk(TINY)
        other.add('one', ONE)
        self.assertEqual(state(desk), before)
        self.assertEqual(desk, other)
        self.assertEqual([desk.undo(), desk.undo()], ['add', None])
        full = self.full_desk()
        self.raises(DeskFull, full.add, 'i', ONE)
        self.assertEqual(full, self.full_desk())
        self.assertEqual([call for call, _ in everything_undone(full)], ['add'] * 8 + [None])

    def test_questions_are_not_reverted(self):
        desk = Desk(TINY)
        desk.add('one', ONE)
        for call in (desk.names, desk.knowledge, desk.in_danger):
            call()
        desk.label('one')
        desk.numbers('one')
        self.assertEqual([desk.undo(), desk.undo()], ['add', None])

    def test_a_fact_and_a_label_get_their_place_back(self):
        desk = Desk(FIXED)
        desk.add('one', ONE)
        desk.forget(2)
        desk.drop('one')
        desk.undo()
        desk.undo()
        self.assertEqual(state(desk), (FIXED, ['one'], [ONE]))


class NumbersTest(DeskCase):
    def test_numbers_follow_what_is_known(self):
        desk = Desk(TINY)
        desk.add('one', ONE)
        desk.add('two', TWO)
        self.assertEqual(desk.numbers('one'), [1, 2])
        self.assertEqual(desk.numbers('two'), line_numbers(TINY, 'im mi i', 40))
        desk.learn(NARROW)
        self.assertEqual(desk.numbers('one'), [1])
        self.assertEqual(desk.numbers('two'), line_numbers(('im', TINY[1] + (NARROW,)), 'im mi i', 40))

    def test_in_danger_exactly_if_a_number_is_greater_than_most(self):
        desk = Desk(('i', ()))
        for most, name in enumerate('abcd', 1):
            desk.add(name, ('i i i i', 99, most))
        # The line with three words is at most 100 wide, so that one of two is possible.
        self.assertEqual(desk.numbers('a'), [1, 2])
        self.assertEqual(desk.in_danger(), ['a'])
        for most, name in enumerate('efgh', 1):
            desk.add(name, ('i i i i', 19, most))
        self.assertEqual(desk.numbers('e'), [1, 2, 4])
        self.assertEqual(desk.in_danger(), ['a', 'e', 'f', 'g'])
        desk.learn(((1, 2), 19, False))
        self.assertEqual(desk.numbers('e'), [1, 2])
        self.assertEqual(desk.in_danger(), ['e'])
        desk.learn(((3, 4), 19, False))
        self.assertEqual(desk.in_danger(), [])
        self.assertEqual([desk.undo(), desk.in_danger()], ['learn', ['e']])

    def test_names_in_danger_ascend(self):
        desk = Desk(TINY)
        for name in ('zebra', 'apple', 'mm', 'm', 'b'):
            desk.add(name, ONE if name != 'mm' else ('im', 30, 1))
        self.assertEqual(desk.names(), ['apple', 'b', 'm', 'mm', 'zebra'])
        self.assertEqual(desk.in_danger(), ['apple', 'b', 'm', 'zebra'])

    def test_eight_words_and_most_of_eight(self):
        desk = Desk(NOTHING)
        desk.add('all', ('i m i m i m i m', 1, 8))
        desk.add('less', ('i m i m i m i m', 1, 7))
        self.assertEqual(desk.in_danger(), ['less'])
        self.assertEqual(desk.numbers('all'), line_numbers(NOTHING, 'i m i m i m i m', 1))


class EqualityTest(DeskCase):
    def assert_equal(self, desk, other, right):
        self.assertIs(desk == other, right)
        self.assertIs(other == desk, right)
        self.assertIs(desk != other, not right)
        self.assertIs(other != desk, not right)

    def test_desks(self):
        desk, other = Desk(TINY), Desk(copy.deepcopy(TINY))
        self.assert_equal(desk, desk, True)
        self.assert_equal(desk, other, True)
        desk.add('one', ONE)
        self.assert_equal(desk, other, False)
        other.add('two', ONE)
        self.assert_equal(desk, other, False)
        desk.add('two', ONE)
        other.add('one', ONE)
        self.assert_equal(desk, other, True)
        other.drop('one')
        other.add('one', ('im im', 30, 2))
        self.assert_equal(desk, other, False)
        other.undo()
        other.add('one', ('im im', 31, 1))
        self.assert_equal(desk, other, False)
        other.undo()
        self.assert_equal(desk, other, False)
        other.undo()
        self.assert_equal(desk, other, True)

    def test_other_knowledge(self):
        self.assert_equal(Desk(TINY), Desk(FIXED), False)
        self.assert_equal(Desk(('i', ())), Desk(('m', ())), False)
        self.assert_equal(Desk(TINY), Desk(('im', TINY[1][::-1])), False)
        self.assert_equal(Desk(('i', (((0, 1), 5, False),))), Desk(('i', (((0, 1), 5, True),))), False)
        self.assert_equal(Desk(('i', (((0, 1), 5, False),))), Desk(('i', (((0, 2), 10, False),))), False)
        desk, other = Desk(TINY), Desk(('im', TINY[1] + (NARROW,)))
        desk.learn(NARROW)
        self.assert_equal(desk, other, True)
        desk.forget(0)
        self.assert_equal(desk, other, False)
        other.forget(0)
        self.assert_equal(desk, other, True)

    def test_what_was_done_does_not_matter(self):
        desk, other = Desk(TINY), Desk(TINY)
        desk.add('one', ONE)
        desk.drop('one')
        self.assert_equal(desk, other, True)
        other.learn(NARROW)
        other.undo()
        self.assert_equal(desk, other, True)

    def test_other_values(self):
        desk = Desk(TINY)
        for value in (TINY, None, 0, True, '', 'Desk', (), [], {}, object(), Desk, (TINY, {}), [desk]):
            self.assert_equal(desk, value, False)
        self.assertTrue(desk in [None, desk])


class CopiesTest(DeskCase):
    def test_desks_do_not_share_anything(self):
        desk, other = Desk(TINY), Desk(TINY)
        desk.add('one', ONE)
        desk.learn(NARROW)
        self.assertEqual(state(other), (TINY, [], []))
        self.assertIsNone(other.undo())

    def test_lists_are_new(self):
        desk = Desk(TINY)
        desk.add('one', ONE)
        desk.names().append('x')
        desk.numbers('one').clear()
        desk.in_danger().append('x')
        self.assertEqual([desk.names(), desk.numbers('one'), desk.in_danger()], [['one'], [1, 2], ['one']])

    def test_arguments_do_not_change(self):
        name, label, fact, index = ['one'], ['im im', 30, 1], [[1, 0, 2], 15, False], {'a': [1]}
        before = copy.deepcopy((name, label, fact, index))
        desk = Desk(TINY)
        self.raises(InvalidName, desk.add, name, label, name=['one'])
        self.raises(InvalidLabel, desk.add, 'one', label)
        self.raises(InvalidName, desk.drop, name, name=['one'])
        self.raises(InvalidFact, desk.learn, fact)
        self.raises(InvalidIndex, desk.forget, index, index={'a': [1]})
        self.assertEqual((name, label, fact, index), before)
        self.assertEqual(state(desk), (TINY, [], []))


class Model:
    """What a desk must do, by snapshots of plain values."""

    def __init__(self, knowledge):
        self.snapshots = [(None, knowledge, {})]

    def step(self, source):
        """Choose a call; return (name of the method, arguments, expected error or None)."""
        _, (letters, facts), labels = self.snapshots[-1]
        call = source.choice(('add', 'add', 'drop', 'learn', 'forget'))
        labels, error = dict(labels), None
        if call == 'add':
            name = source.choice('abcdefghijk') if source.random() < 0.9 else source.choice((1, 'B', ''))
            label = (random_text(source, 'im', source.randint(1, 3), 3), source.randint(0, 60), source.randint(1, 3))
            error = (
                InvalidName if name in (1, 'B', '') else NameInUse if name in labels
                else DeskFull if len(labels) == 8 else InvalidLabel if label[1] == 0 else None
            )
            arguments = (name, label)
            if error is None:
                labels[name] = label
        elif call == 'drop':
            arguments = (source.choice('abcdefghijk'),)
            error = None if arguments[0] in labels else InvalidName
            if error is None:
                del labels[arguments[0]]
        elif call == 'learn':
            fact = (tuple(source.randint(-2, 2) for _ in range(3)), source.randint(-5, 20), source.random() < 0.5)
            arguments = (source.choice((fact, fact, fact, None)),)
            error = (
                InvalidFact if arguments[0] is None or len(facts) == 8
                else None if has_font((letters, facts + arguments)) else NoFont
            )
            facts = facts if error else facts + arguments
        else:
            arguments = (source.randint(-1, 8),)
            error = None if 0 <= arguments[0] < len(facts) else InvalidIndex
            facts = facts if error else facts[:arguments[0]] + facts[arguments[0] + 1:]
        if error is None:
            self.snapshots.append((call, (letters, facts), labels))
        return call, arguments, error

    def undo(self):
        return self.snapshots.pop()[0] if len(self.snapshots) > 1 else None


class ArbitraryTest(DeskCase):
    def test_against_a_model(self):
        source = random.Random(1)
        for _ in range(30):
            desk, model = Desk(NOTHING), Model(NOTHING)
            for _ in range(60):
                if source.random() < 0.2:
                    self.assertEqual(desk.undo(), model.undo())
                else:
                    call, arguments, error = model.step(source)
                    if error is None:
                        self.assertIsNone(getattr(desk, call)(*arguments))
                    else:
                        self.raises(error, getattr(desk, call), *arguments)
                _, knowledge, labels = model.snapshots[-1]
                self.assertEqual(state(desk), (knowledge, sorted(labels), [labels[name] for name in sorted(labels)]))
            self.assertEqual(desk.in_danger(), [
                name for name in sorted(labels) if max(line_numbers(knowledge, *labels[name][:2])) > labels[name][2]
            ])
            for name in labels:
                self.assertEqual(desk.numbers(name), line_numbers(knowledge, *labels[name][:2]))


if __name__ == '__main__':
    unittest.main()

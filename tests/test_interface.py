"""The interface: each name stands in its file, with its arguments."""

import doctest
import inspect
import pathlib
import unittest
from importlib import import_module

README = pathlib.Path(__file__).resolve().parent.parent / 'README.md'

FUNCTIONS = {
    'anyfont.knowledge': {
        'is_condition': ['letters', 'value'],
        'is_font': ['letters', 'value'],
        'is_knowledge': ['value'],
        'holds': ['condition', 'font'],
        'fits': ['knowledge', 'font'],
    },
    'anyfont.texts': {
        'is_text': ['letters', 'value'],
        'counts': ['letters', 'string'],
        'width': ['letters', 'string', 'font'],
        'lines': ['letters', 'text', 'measure', 'font'],
    },
    'anyfont.refutations': {'is_refutation': ['knowledge', 'conditions', 'value']},
    'anyfont.solving': {
        'find_font': ['knowledge', 'conditions'],
        'find_refutation': ['knowledge', 'conditions'],
        'has_font': ['knowledge'],
    },
    'anyfont.claims': {
        'opposite': ['condition'],
        'is_sure': ['knowledge', 'claim'],
        'is_possible': ['knowledge', 'claim'],
        'highest': ['knowledge', 'factors'],
    },
    'anyfont.comparing': {
        'never_wider': ['knowledge', 'string', 'other'],
        'find_wider': ['knowledge', 'string', 'other'],
        'widest': ['knowledge', 'strings'],
    },
    'anyfont.layouts': {
        'conditions_of': ['letters', 'text', 'measure', 'layout'],
        'layouts': ['knowledge', 'text', 'measure'],
        'is_settled': ['knowledge', 'text', 'measure'],
    },
    'anyfont.numbers': {
        'line_numbers': ['knowledge', 'text', 'measure'],
        'line_starts': ['knowledge', 'text', 'measure'],
    },
    'anyfont.measures': {
        'is_safe': ['knowledge', 'text', 'k', 'measure'],
        'safe_measure': ['knowledge', 'text', 'k'],
    },
    'anyfont.shortening': {
        'short_form': ['letters', 'text', 'mark', 'measure', 'font'],
        'short_forms': ['knowledge', 'text', 'mark', 'measure'],
    },
    'anyfont.alike': {
        'find_split': ['knowledge', 'text', 'measure', 'other', 'other_measure'],
        'is_needless': ['knowledge', 'index'],
        'trimmed': ['knowledge'],
    },
    'anyfont.probing': {
        'is_question': ['letters', 'value'],
        'answers': ['question'],
        'answer_of': ['letters', 'question', 'font'],
        'answer_conditions': ['letters', 'question', 'answer'],
        'are_probes': ['letters', 'value'],
        'is_seen': ['probes', 'value'],
        'seen_conditions': ['letters', 'probes', 'seen'],
        'find_agreeing': ['knowledge', 'probes', 'seen'],
        'possible_answers': ['knowledge', 'probes', 'seen', 'question'],
    },
    'anyfont.standing': {
        'find_showing': ['knowledge', 'probes', 'seen', 'text', 'measure', 'layout'],
        'is_showing': ['knowledge', 'probes', 'seen', 'text', 'measure', 'layout', 'value'],
        'find_misfit': ['knowledge', 'probes', 'seen', 'text', 'measure', 'layout'],
    },
    'anyfont.fewest': {
        'find_standing': ['knowledge', 'probes', 'seen', 'text', 'measure', 'n'],
        'find_bars': ['knowledge', 'probes', 'seen', 'text', 'measure', 'n'],
        'are_bars': ['knowledge', 'probes', 'seen', 'text', 'measure', 'value'],
        'fewest_lines': ['knowledge', 'probes', 'seen', 'text', 'measure'],
    },
    'anyfont.tops': {
        'top_of': ['knowledge', 'probes', 'seen', 'string'],
        'find_cover': ['knowledge', 'probes', 'seen', 'string', 'bound'],
        'is_cover': ['knowledge', 'probes', 'seen', 'string', 'bound', 'value'],
        'is_limit_font': ['knowledge', 'probes', 'seen', 'value'],
        'find_limit_font': ['knowledge', 'probes', 'seen', 'string'],
        'least_measure': ['knowledge', 'probes', 'seen', 'text', 'n'],
    },
    'anyfont.trees': {
        'has_reached': ['knowledge', 'probes', 'seen', 'goal'],
        'find_tree': ['knowledge', 'probes', 'seen', 'goal', 'd'],
        'find_book': ['knowledge', 'probes', 'seen', 'goal', 'd'],
        'tree_cost': ['knowledge', 'probes', 'seen', 'goal', 'value'],
        'is_book': ['knowledge', 'probes', 'seen', 'goal', 'd', 'value'],
        'least_cost': ['knowledge', 'probes', 'seen', 'goal'],
    },
    'anyfont.prices': {
        'lines_after': ['knowledge', 'probes', 'seen', 'text', 'measure', 'd'],
        'price_of': ['knowledge', 'probes', 'seen', 'text', 'measure'],
        'sure_saving': ['knowledge', 'probes', 'seen', 'text', 'measure', 'k'],
    },
    'anyfont.proberlogs': {
        'prober_log': ['prober'],
        'first_prober_fault': ['knowledge', 'probes', 'value'],
        'is_prober_log': ['knowledge', 'probes', 'value'],
        'resumed_prober': ['knowledge', 'probes', 'log'],
    },
}
CLASSES = {
    ('anyfont.desk', 'Desk'): {
        '__init__': ['self', 'knowledge'],
        '__eq__': ['self', 'other'],
        'add': ['self', 'name', 'label'],
        'drop': ['self', 'name'],
        'learn': ['self', 'fact'],
        'forget': ['self', 'index'],
        'undo': ['self'],
        'names': ['self'],
        'knowledge': ['self'],
        'label': ['self', 'name'],
        'numbers': ['self', 'name'],
        'in_danger': ['self'],
    },
    ('anyfont.probers', 'Prober'): {
        '__init__': ['self', 'knowledge', 'probes'],
        '__eq__': ['self', 'other'],
        '__len__': ['self'],
        'see': ['self', 'index', 'answer'],
        'unsee': ['self', 'index'],
        'undo': ['self'],
        'seen': ['self'],
        'font': ['self'],
        'answer_to': ['self', 'question'],
        'fewest': ['self', 'text', 'measure'],
        'merged': ['self', 'other'],
    },
}
ERRORS = {
    'anyfont.errors': {
        'InvalidName': ['name'], 'NameInUse': ['name'], 'DeskFull': ['limit'], 'InvalidIndex': ['index'],
    },
    'anyfont.probererrors': {
        'AlreadySeen': ['index'], 'InvalidAnswer': ['answer'], 'NoAgreement': ['refutation'],
    },
}


class InterfaceTest(unittest.TestCase):
    def test_functions(self):
        for module, table in FUNCTIONS.items():
            for name, arguments in table.items():
                with self.subTest(module=module, name=name):
                    function = getattr(import_module(module), name)
                    self.assertTrue(inspect.isfunction(function))
                    self.assertEqual(function.__module__, module)
                    self.assertEqual(list(inspect.signature(function).parameters), arguments)

    def test_classes(self):
        for (module, kind), table in CLASSES.items():
            found = getattr(import_module(module), kind)
            self.assertTrue(inspect.isclass(found))
            self.assertEqual(found.__module__, module)
            for name, arguments in table.items():
                with self.subTest(kind=kind, name=name):
                    # Each method stands in the class itself, not only in a base class.
                    self.assertEqual(list(inspect.signature(vars(found)[name]).parameters), arguments)

    def test_errors(self):
        for module, table in ERRORS.items():
            for name, arguments in table.items():
                with self.subTest(module=module, name=name):
                    kind = getattr(import_module(module), name)
                    self.assertEqual(kind.__module__, module)
                    self.assertEqual(list(inspect.signature(kind).parameters), arguments)

    def test_examples_of_the_readme(self):
        found = doctest.testfile(str(README), module_relative=False)
        self.assertGreater(found.attempted, 0)
        self.assertEqual(found.failed, 0)


if __name__ == '__main__':
    unittest.main()

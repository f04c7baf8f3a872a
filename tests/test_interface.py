"""The names of the interface: where they are defined, and their arguments."""

import inspect
import unittest

from graft import errors, facts, grafts, logs, machine, passes, terms, texts

FUNCTIONS = (
    (terms, "is_grammar", "(thing)"),
    (terms, "checked", "(thing)"),
    (terms, "parts_of", "(expression)"),
    (terms, "calls_of", "(expression)"),
    (terms, "size_of", "(grammar)"),
    (facts, "may_be_empty", "(expression, names)"),
    (facts, "empty_rules", "(grammar)"),
    (facts, "check", "(grammar)"),
    (facts, "firsts", "(grammar, expression)"),
    (facts, "never_fails", "(expression)"),
    (machine, "match", "(grammar, text, at=0)"),
    (machine, "run", "(grammar, text, at)"),
    (grafts, "apply_graft", "(name, grammar, expression, numbers)"),
    (logs, "is_step", "(thing)"),
    (logs, "expression_at", "(expression, path)"),
    (logs, "stepped", "(grammar, step)"),
    (logs, "replay", "(grammar, log)"),
    (passes, "improved", "(grammar)"),
    (texts, "parse", "(text)"),
    (texts, "show", "(grammar)"),
)
CLASSES = ("Refused", "Malformed", "Invalid", "Unknown", "Looping", "BadStep")


class InterfaceTest(unittest.TestCase):
    def test_functions_stand_in_their_files_with_their_arguments(self):
        for module, name, arguments in FUNCTIONS:
            function = getattr(module, name)
            self.assertEqual(function.__module__, module.__name__)
            self.assertEqual(str(inspect.signature(function)), arguments)

    def test_classes_stand_in_their_file(self):
        for name in CLASSES:
            self.assertEqual(getattr(errors, name).__module__, "graft.errors")


if __name__ == "__main__":
    unittest.main()

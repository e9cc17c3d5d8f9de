"""The files of the package keep to the rules for their code, and the interface stands where it must."""

import ast
import unittest

from tests import language

INTERFACE = {
    "errors.py": [
        "ViewError", "InvalidSource", "InvalidProgram", "Fault", "InvalidDocument", "InvalidOperation",
        "InvalidRecording", "UnknownComponent", "UnknownParameter", "InvalidValue", "UnknownLane", "UnknownKey",
        "AnswerGiven", "InvalidCall", "MissingAnswer", "RenderingFailed", "RenderingHeld",
    ],
    "words/tokens.py": ["tokens(source)"],
    "words/reading.py": ["parse_program(source)", "parse_expression(source)"],
    "words/printing.py": ["program_text(program)"],
    "words/showing.py": ["expression_text(expression)", "constant_text(value)", "quoted(text)"],
    "checks/scopes.py": [
        "Scope", "Scope.__contains__(self, name)", "Scope.__iter__(self)", "Scope.__len__(self)",
        "Scope.declare(self, name)", "Scope.allow(self, name)", "Scope.inner(self)",
    ],
    "checks/checking.py": ["Checker", "Checker.check(self)", "Checker.__init__(self, program)", "is_sound(program)"],
    "checks/names.py": ["free_names(expression)"],
    "values/plain.py": ["same(a, b)", "size(value)", "depth(value)", "text_of(value)", "copied(value)"],
    "values/functions.py": ["call_function(name, arguments)"],
    "values/evaluating.py": ["evaluate(expression, environment, owner)"],
    "server/reading.py": ["read_tree(text)"],
}


def heads(tree, ahead=""):
    """Returns the names of the classes, and the names and parameters of the functions and methods of a file."""
    found = []
    for node in tree.body:
        if isinstance(node, ast.ClassDef):
            found.append(ahead + node.name)
            found.extend(heads(node, node.name + "."))
        if isinstance(node, ast.FunctionDef):
            found.append(f"{ahead}{node.name}({', '.join(argument.arg for argument in node.args.args)})")
    return found


class Language(unittest.TestCase):
    def test_package_keeps_to_the_rules(self):
        self.assertEqual(language.finds(), [])

    def test_interface_is_defined_in_its_files(self):
        for name, wanted in INTERFACE.items():
            there = heads(ast.parse((language.PACKAGE / name).read_text()))
            for head in wanted:
                with self.subTest(file=name, head=head):
                    self.assertIn(head, there)

"""The interface as it is written, and the sizes that the language allows."""

import ast
import importlib
import inspect
import pathlib
import unittest

PACKAGE = pathlib.Path(__file__).resolve().parent.parent / "pilereach"

INTERFACE = {
    "errors": {
        "PileError": None,
        "InvalidMachine": None,
        "InvalidNet": None,
        "Mismatch": None,
        "NotPlain": None,
        "NoStep": "(index)",
        "InvalidProgram": "(index)",
        "InvalidText": "(where)",
    },
    "machine": {
        "Step": "(state, letter, goal, laid=(), weight=1)",
        "Machine": "(states, letters, steps)",
    },
    "runs": {
        "possible": "(machine, configuration)",
        "take": "(machine, configuration, index)",
        "follow": "(machine, configuration, run)",
        "weight_of": "(machine, run)",
    },
    "net": {
        "Net": "(states, letters, nodes, edges, ends)",
        "plain": "(net)",
        "whole_net": "(states, letters)",
        "none_net": "(states, letters)",
        "single": "(states, letters, configuration)",
    },
    "product": {"union": "(a, b)", "both": "(a, b)"},
    "subset": {"deterministic": "(net)", "other": "(net)", "minus": "(a, b)"},
    "order": {"first": "(net)", "members": "(net, height)", "count": "(net, height)", "apart": "(a, b)"},
    "ahead": {"ahead": "(machine, net)", "least": "(machine, net, configuration)"},
    "spelling": {"length_of": "(machine, paper)", "spelled": "(machine, paper, most)"},
    "behind": {"behind": "(machine, net)", "came": "(machine, net, configuration)"},
    "endless": {"endless": "(machine, marked, configuration)"},
    "judge": {
        "takes_least": "(machine, net, configuration, weight, paper)",
        "takes_came": "(machine, net, configuration, verdict, paper)",
    },
    "judgeever": {"takes_endless": "(machine, marked, configuration, verdict, paper)"},
    "program": {"Program": "(global_count, procedures)"},
    "meaning": {"begin": "(program)", "after": "(program, situation)"},
    "compiled": {
        "machine_of": "(program)",
        "configuration_of": "(program, situation)",
        "situation_of": "(program, configuration)",
    },
    "questions": {
        "place_net": "(program, place)",
        "place_marks": "(program, place)",
        "can_pass": "(program, place)",
        "passes_ever": "(program, place)",
        "story": "(program, paper, most)",
    },
    "reader": {"read_program": "(text)"},
    "printer": {"write_program": "(program)"},
}

# What the interface lists for a class, which must stand in the class itself.
METHODS = {("net", "Net"): {"accepts": "(self, configuration)"}}
PROPERTIES = {("net", "Net"): ["is_plain"]}


def names():
    return [(file, name, parameters) for file, parts in INTERFACE.items() for name, parameters in parts.items()]


class InterfaceTest(unittest.TestCase):
    def test_each_name_is_defined_in_its_file(self):
        for file, name, _ in names():
            with self.subTest(file=file, name=name):
                module = importlib.import_module(f"pilereach.{file}")
                self.assertEqual(getattr(module, name).__module__, f"pilereach.{file}")

    def test_parameters_and_their_default_values(self):
        for file, name, parameters in names():
            if parameters is not None:
                with self.subTest(file=file, name=name):
                    module = importlib.import_module(f"pilereach.{file}")
                    self.assertEqual(str(inspect.signature(getattr(module, name))), parameters)

    def test_methods_stand_in_the_class_itself(self):
        for (file, name), methods in METHODS.items():
            for method, parameters in methods.items():
                kind = getattr(importlib.import_module(f"pilereach.{file}"), name)
                self.assertIn(method, vars(kind))
                self.assertEqual(str(inspect.signature(vars(kind)[method])), parameters)

    def test_properties_stand_in_the_class_itself(self):
        for (file, name), properties in PROPERTIES.items():
            for member in properties:
                kind = getattr(importlib.import_module(f"pilereach.{file}"), name)
                self.assertIsInstance(vars(kind)[member], property)


class SizeTest(unittest.TestCase):
    def texts(self):
        return [(path.name, path.read_text("utf-8")) for path in sorted(PACKAGE.rglob("*.py"))]

    def test_lines_and_characters(self):
        for name, text in self.texts():
            with self.subTest(name):
                lines = text.splitlines()
                self.assertLessEqual(len(lines), 399)
                self.assertLessEqual(max(len(line) for line in lines), 120)
                self.assertTrue(all(" " <= sign <= "~" or sign == "\n" for sign in text))

    def test_functions_have_at_most_40_lines(self):
        for name, text in self.texts():
            for node in ast.walk(ast.parse(text)):
                if isinstance(node, ast.FunctionDef):
                    with self.subTest(name, function=node.name):
                        self.assertLessEqual(node.end_lineno - node.lineno + 1, 40)


if __name__ == "__main__":
    unittest.main()

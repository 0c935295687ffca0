"""The names of the interface, where they are defined and what they take."""

import ast
import unittest
from pathlib import Path

PACKAGE = Path(__file__).resolve().parent.parent / "foreaft"

FUNCTIONS = {
    "words": {
        "is_alphabet": ["thing"],
        "is_word": ["alphabet", "thing"],
        "comes_before": ["alphabet", "one", "two"],
    },
    "machines": {
        "form": ["machine"],
        "run": ["machine", "word"],
        "output_between": ["machine", "left", "right", "word"],
        "states_of": ["machine", "word"],
        "left_state": ["machine", "word"],
        "right_state": ["machine", "word"],
        "trim": ["machine"],
        "mirror": ["machine"],
        "identity": ["alphabet"],
        "recode": ["machine", "alphabet", "letters"],
    },
    "compare": {
        "is_same": ["one", "two"],
        "difference": ["one", "two"],
        "same_paper": ["one", "two"],
        "is_same_paper": ["one", "two", "paper"],
    },
    "least": {
        "least": ["machine"],
        "is_least": ["machine"],
        "counts": ["machine"],
        "separator": ["machine", "side", "one", "two"],
        "least_paper": ["machine"],
        "is_least_paper": ["machine", "paper"],
    },
    "sides": {
        "is_one_sided": ["machine", "side"],
        "look_ahead": ["machine"],
        "look_back": ["machine"],
        "ahead_paper": ["machine"],
        "is_ahead_paper": ["machine", "paper"],
    },
    "cascades": {
        "compose": ["first", "second"],
        "cascade": ["machines"],
        "commutes": ["one", "two"],
        "order_difference": ["one", "two"],
        "is_idempotent": ["machine"],
    },
    "images": {
        "first_preimage": ["machine", "word"],
        "count_preimages": ["machine", "word"],
        "preimages": ["machine", "word", "most"],
        "first_with": ["machine", "piece"],
    },
    "collisions": {
        "is_injective": ["machine"],
        "collision": ["machine"],
    },
    "patterns": {
        "matches": ["pattern", "word"],
        "first_match": ["pattern"],
        "count_outputs": ["machine", "pattern", "length"],
    },
    "rules": {
        "applied": ["rules", "word"],
        "which": ["rules", "word"],
        "machine_of": ["rules"],
    },
}

CLASSES = {
    "errors": {
        "MachineError": ["reason"],
        "BookError": ["reason"],
        "PatternError": ["place", "reason"],
        "RuleError": ["line", "place", "reason"],
    },
    "machines": {"Machine": ["reads", "writes", "left", "right", "table"]},
    "patterns": {"Pattern": ["alphabet", "text"]},
    "rules": {"Rules": ["alphabet", "text"]},
    "books": {"Book": ["alphabet"]},
}

BOOK_METHODS = {
    "passes": [],
    "size": [],
    "insert": ["index", "machine"],
    "remove": ["index"],
    "move": ["start", "end"],
    "apply": ["word"],
    "trace": ["word"],
    "whole": [],
    "can_swap": ["index"],
    "idle_passes": [],
    "undo": [],
    "copy": [],
}


def tree(name):
    return ast.parse((PACKAGE / f"{name}.py").read_text(encoding="utf-8"))


def names_of(function):
    return [argument.arg for argument in function.args.args]


class TestInterface(unittest.TestCase):
    def test_functions(self):
        for name, functions in FUNCTIONS.items():
            found = {row.name: names_of(row) for row in tree(name).body if isinstance(row, ast.FunctionDef)}
            for function, arguments in functions.items():
                self.assertEqual(found.get(function), arguments, (name, function))

    def test_classes(self):
        for name, classes in CLASSES.items():
            found = {row.name: row for row in tree(name).body if isinstance(row, ast.ClassDef)}
            for kind, arguments in classes.items():
                methods = {row.name: row for row in found[kind].body if isinstance(row, ast.FunctionDef)}
                self.assertEqual(names_of(methods["__init__"]), ["self"] + arguments, (name, kind))

    def test_methods_of_books(self):
        book = [row for row in tree("books").body if isinstance(row, ast.ClassDef) and row.name == "Book"][0]
        methods = {row.name: names_of(row) for row in book.body if isinstance(row, ast.FunctionDef)}
        for name, arguments in BOOK_METHODS.items():
            self.assertEqual(methods.get(name), ["self"] + arguments, name)

    def test_base_error(self):
        found = [row.name for row in tree("errors").body if isinstance(row, ast.ClassDef)]
        self.assertEqual(sorted(found), ["BookError", "ForeaftError", "MachineError", "PatternError", "RuleError"])


if __name__ == "__main__":
    unittest.main()

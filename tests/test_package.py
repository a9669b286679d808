"""Tests of the form of the package: its files, its sizes and what it imports."""

import ast
import pathlib
import unittest

PACKAGE = pathlib.Path(__file__).resolve().parent.parent / "wholepackets"
INTERFACE = {
    "errors": ["BuildError", "ChangeError", "CommandError", "RuleError", "SwitchError", "TextError"],
    "tokens": ["is_reserved", "tokenize"],
    "parsing": ["parse_program"],
    "writing": ["write_program"],
    "rules": ["check", "width_of"],
    "entries": ["call_of", "choose", "is_entry", "matches"],
    "meaning": ["choices", "process"],
    "layout": ["cell_of", "header_cells", "valid_cell", "widths"],
    "walking": ["compile_parser", "walk"],
    "nodes": ["compile_control", "stages"],
    "actions": ["compile_action", "execute"],
    "images": ["build", "choice", "enter_unit", "pass_unit", "run_image"],
    "pipes": ["Pipe"],
    "ledger": ["Ledger"],
    "journal": ["Journal"],
    "controller": ["Controller"],
    "queues": ["Queue"],
    "switch": ["Switch"],
    "judging": ["judge"],
    "script": ["run_script"],
}
# By file and class: the arguments of each method behind the object itself.
METHODS = {
    ("pipes", "Pipe"): {
        "__init__": ["image", "version"],
        "write": ["unit", "contents", "version"],
        "turn": ["version"],
        "carries": [],
        "advance": ["label", "packet", "port"],
        "labels": [],
        "counts": [],
    },
    ("ledger", "Ledger"): {"__init__": [], "collect": ["version", "counts"], "total": ["others"]},
    ("journal", "Journal"): {
        "__init__": ["text"],
        "submit": ["change"],
        "latest": [],
        "configuration": ["version"],
    },
    ("controller", "Controller"): {"__init__": ["journal", "ledger", "pipes"], "step": [], "restart": []},
    ("queues", "Queue"): {"__init__": ["capacity", "gap"], "put": ["item"], "take": ["tick"], "waiting": []},
    ("switch", "Switch"): {
        "__init__": ["text", "pipes", "intake", "capacity", "gap"],
        "advance": ["events"],
        "run": ["schedule"],
        "hits": [],
        "inside": [],
    },
}


def sources():
    """Return the pairs of the name and the text of each file of the package."""
    return [(path.stem, path.read_text(encoding="utf-8")) for path in sorted(PACKAGE.glob("*.py"))]


class PackageTest(unittest.TestCase):
    def test_only_files_of_python(self):
        others = [path.name for path in PACKAGE.iterdir() if path.suffix != ".py"]
        self.assertEqual([name for name in others if name != "__pycache__"], [])
        self.assertTrue((PACKAGE / "__init__.py").is_file())

    def test_characters_and_sizes(self):
        for name, text in sources():
            lines = text.split("\n")
            self.assertLess(len(lines), 400, msg=name)
            self.assertLessEqual(max(len(line) for line in lines), 120, msg=name)
            self.assertEqual([char for char in text if char != "\n" and not " " <= char <= "~"], [], msg=name)

    def test_length_of_functions(self):
        for name, text in sources():
            for node in ast.walk(ast.parse(text)):
                if isinstance(node, ast.FunctionDef):
                    self.assertLessEqual(node.end_lineno - node.lineno + 1, 40, msg=f"{name}.{node.name}")

    def test_imports(self):
        for name, text in sources():
            for node in ast.walk(ast.parse(text)):
                self.assertNotIsInstance(node, ast.Import, msg=name)
                if isinstance(node, ast.ImportFrom):
                    self.assertEqual(node.level, 0, msg=name)
                    self.assertEqual(node.module.split(".")[0], "wholepackets", msg=name)

    def test_interface_is_defined_where_it_is_listed(self):
        texts = dict(sources())
        for name, listed in INTERFACE.items():
            body = ast.parse(texts[name]).body
            defined = [node.name for node in body if isinstance(node, (ast.FunctionDef, ast.ClassDef))]
            self.assertEqual([word for word in listed if word not in defined], [], msg=name)

    def test_methods_are_defined_in_their_classes(self):
        texts = dict(sources())
        for (name, class_name), listed in METHODS.items():
            body = ast.parse(texts[name]).body
            found = [node for node in body if isinstance(node, ast.ClassDef) and node.name == class_name]
            methods = {node.name: node.args for node in found[0].body if isinstance(node, ast.FunctionDef)}
            for method, words in listed.items():
                args = [*methods[method].args, *methods[method].kwonlyargs]
                self.assertEqual([arg.arg for arg in args[1:]], words, msg=f"{class_name}.{method}")


if __name__ == "__main__":
    unittest.main()

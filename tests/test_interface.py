"""The names and arguments of the interface, and the layout that LANGUAGE.md asks for in L10 and L14 to L16."""

import ast
import importlib
import inspect
import pathlib
import unittest

PACKAGE = pathlib.Path(__file__).resolve().parent.parent / "excerptcheck"

FUNCTIONS = {
    "symbols": {
        "symbols": "(letters, owners)",
        "owner_symbols": "(letters, owners)",
        "precedes": "(first, second, *, mirrored=False)",
        "encoded": "(sequence)",
        "decoded": "(text)",
    },
    "trees": {
        "node_count": "(tree)",
        "parts_of": "(tree)",
        "mirrored": "(tree)",
    },
    "matching": {
        "belongs": "(symbol, tree)",
        "matches": "(tree, sequence)",
    },
    "acceptors": {
        "states_along": "(acceptor, sequence)",
        "accepts": "(acceptor, sequence)",
        "first_sequences": "(acceptor)",
        "minimal": "(acceptor)",
        "first_accepted": "(acceptor)",
        "parting": "(first, second)",
    },
    "machines": {
        "machine": "(reads, tree)",
        "complexity": "(reads, tree)",
        "alike": "(reads, first, second)",
    },
    "twoway": {
        "run": "(machine, sequence)",
        "left_states": "(machine, sequence)",
        "right_states": "(machine, sequence)",
        "identity": "(reads)",
    },
    "least": {
        "least_form": "(machine)",
        "restricted": "(machine, reads)",
        "parting_sequence": "(first, second)",
    },
    "composing": {
        "composed": "(first, second)",
    },
    "pipelines": {
        "stage_output": "(stage, sequence)",
        "excerpt": "(pipeline, document)",
        "trace": "(pipeline, document)",
        "blocks": "(letters, owners, pipeline)",
    },
    "cascades": {
        "stage_machine": "(reads, stage)",
        "pipeline_machine": "(letters, owners, pipeline)",
    },
    "kinds": {
        "kind_machine": "(kind)",
        "of_kind": "(kind, sequence)",
    },
    "counting": {
        "documents": "(kind, *, most)",
        "first_document": "(kind)",
        "next_document": "(kind, document, *, most)",
        "many": "(kind, length)",
        "document_at": "(kind, length, index)",
        "index_of": "(kind, document)",
    },
    "graphs": {
        "graph_of": "(acceptor, machine)",
        "graph": "(kind, pipeline)",
        "edges_along": "(graph, sequence)",
        "lengths": "(graph, *, most)",
    },
    "nets": {
        "net_of": "(graph)",
        "useful": "(net)",
        "potentials": "(net, weights)",
        "defect": "(net, weights, bound, integers)",
        "first_above": "(net, weights, bound, *, most)",
        "greatest_weight": "(net, weights)",
    },
    "ratios": {
        "greatest_ratio": "(net, chosen, sizes)",
    },
    "spreads": {
        "spread": "(graph, acceptor)",
        "spread_defect": "(graph, acceptor, lists)",
        "first_refused": "(graph, acceptor, *, most)",
    },
    "policies": {
        "complies": "(policy, sequence)",
        "weight": "(policy, output)",
    },
    "deciding": {
        "decide": "(kind, pipeline, policy)",
        "check_certificate": "(kind, pipeline, policy, certificate)",
    },
    "shares": {
        "greatest_share": "(kind, pipeline, holders)",
        "greatest_sum": "(kind, pipeline, prices)",
        "holders_of": "(kind, pipeline)",
    },
    "allowed": {
        "allowed": "(kind, pipeline, tree)",
        "first_source": "(kind, pipeline, sequence)",
    },
    "differences": {
        "difference": "(kind, first, second)",
    },
    "streams": {
        "certain": "(acceptor, machine, sequence)",
    },
    "discretion": {
        "alike_but_for": "(owner, first, second)",
        "indiscretion": "(acceptor, machine, owner)",
    },
    "journal": {
        "replayed": "(letters, rates, log)",
    },
    "reader": {
        "read_pattern": "(text)",
        "read_pipeline": "(texts)",
    },
    "printer": {
        "show_pattern": "(tree)",
        "show_pipeline": "(pipeline)",
    },
}

# For each class its methods, None for a property.
CLASSES = {
    ("streams", "Stream"): {
        "__init__": "(self, acceptor, machine)",
        "feed": "(self, symbol)",
        "finish": "(self)",
        "given": None,
        "told": None,
        "possible": None,
        "__len__": "(self)",
        "__iter__": "(self)",
    },
    ("house", "Clearinghouse"): {
        "__init__": "(self, letters, rates)",
        "execute": "(self, command)",
        "undo": "(self)",
        "contract": "(self, number)",
        "certificate": "(self, number, owner)",
        "least_fee": "(self, pipeline, kind)",
        "accounts": None,
        "terms": None,
        "active": None,
        "log": None,
        "__len__": "(self)",
        "__iter__": "(self)",
        "__contains__": "(self, command)",
    },
}

ERRORS = ["ExcerptError", "InvalidText", "InvalidPattern", "TooManyNodes", "InvalidPipeline", "TooComplex", "NotRead",
          "TooLarge", "NoDocument", "NotOfKind", "Unknown", "TooMany", "FeeTooLow", "BreaksTerms", "Suspended",
          "Finished"]


class Interface(unittest.TestCase):
    def test_functions_stand_in_their_own_files_with_their_arguments(self):
        for module_name, functions in FUNCTIONS.items():
            module = importlib.import_module("excerptcheck." + module_name)
            for name, arguments in functions.items():
                with self.subTest((module_name, name)):
                    found = getattr(module, name)
                    self.assertTrue(inspect.isfunction(found))
                    self.assertEqual(found.__module__, module.__name__)
                    self.assertEqual(str(inspect.signature(found)), arguments)

    def test_classes_define_their_methods_themselves(self):
        for (module_name, name), methods in CLASSES.items():
            found = getattr(importlib.import_module("excerptcheck." + module_name), name)
            self.assertEqual(found.__module__, "excerptcheck." + module_name)
            for method, arguments in methods.items():
                with self.subTest((name, method)):
                    defined = vars(found)[method]
                    if arguments is None:
                        self.assertIsInstance(defined, property)
                        self.assertIsNone(defined.fset)
                    else:
                        self.assertEqual(str(inspect.signature(defined)), arguments)

    def test_errors_stand_in_their_own_file(self):
        module = importlib.import_module("excerptcheck.errors")
        for name in ERRORS:
            with self.subTest(name):
                self.assertEqual(getattr(module, name).__module__, "excerptcheck.errors")

    def test_names_are_defined_by_def_and_class(self):
        listed = {module_name: list(functions) for module_name, functions in FUNCTIONS.items()} | {"errors": ERRORS}
        for module_name, name in CLASSES:
            listed.setdefault(module_name, []).append(name)
        for module_name, functions in listed.items():
            tree = ast.parse((PACKAGE / (module_name + ".py")).read_text())
            defined = {part.name for part in tree.body if isinstance(part, (ast.FunctionDef, ast.ClassDef))}
            with self.subTest(module_name):
                self.assertEqual(set(functions) - defined, set())


class Layout(unittest.TestCase):
    def files(self):
        return sorted(PACKAGE.glob("**/*.py"))

    def test_the_package_has_an_init(self):
        self.assertTrue((PACKAGE / "__init__.py").is_file())

    def test_lines_files_and_functions_are_short(self):
        for path in self.files():
            lines = path.read_text().split("\n")
            with self.subTest(path.name):
                self.assertLess(len(lines), 400)
                self.assertLessEqual(max(map(len, lines)), 120)
                for part in ast.walk(ast.parse(path.read_text())):
                    if isinstance(part, (ast.FunctionDef, ast.Lambda)):
                        self.assertLessEqual(part.end_lineno - part.lineno + 1, 40)

    def test_only_plain_characters(self):
        for path in self.files():
            with self.subTest(path.name):
                self.assertTrue(all(" " <= character <= "~" or character == "\n" for character in path.read_text()))

    def test_imports_name_the_file_that_defines_the_name(self):
        for path in self.files():
            for part in ast.parse(path.read_text()).body:
                if isinstance(part, ast.ImportFrom) and part.module.startswith("excerptcheck."):
                    found = PACKAGE.parent / (part.module.replace(".", "/") + ".py")
                    bound = ast.parse(found.read_text()).body
                    names = {row.name for row in bound if isinstance(row, (ast.FunctionDef, ast.ClassDef))}
                    names |= {row.targets[0].id for row in bound if isinstance(row, ast.Assign)}
                    with self.subTest((path.name, part.module)):
                        self.assertEqual({alias.name for alias in part.names} - names, set())


if __name__ == "__main__":
    unittest.main()

"""The names, arguments and places of the interface, and that the package holds nothing but modules."""

import ast
import pathlib
import unittest

PACKAGE = pathlib.Path(__file__).resolve().parent.parent / "authsync"

FUNCTIONS = {
    "names": [
        "is_identifier(text)", "is_object(text)", "is_reference(text)", "type_of(target)", "split_reference(reference)",
        "token_of(store, revision)", "split_token(text)",
    ],
    "schema": [
        "read_schema(text)", "schema_text(schema)", "definition(schema, kind, name)", "names_of(schema, kind)",
        "strata(schema)",
    ],
    "tables": [
        "conforms(schema, relationship)", "check_relationships(schema, relationships)",
        "check_question(schema, target, name, subject)", "evaluate(schema, relationships)",
        "ranked(schema, relationships)",
    ],
    "certificates": [
        "certify(schema, relationships, target, name, subject)",
        "verify(schema, relationships, target, name, subject, certificate)",
    ],
    "changes": [
        "difference(before, after)", "applies(grants, change)", "apply_change(grants, change)", "compose(first, second)",
    ],
}
CLASSES = {
    ("errors", "AuthError"): [],
    ("errors", "BadSchema"): ["__init__(self, line, what)"],
    ("errors", "BadFeed"): ["__init__(self, line, what)"],
    ("errors", "Refused"): ["__init__(self, what, index=-1)"],
    ("primary", "Primary"): [
        "__init__(self, store, text, relationships=())", "store_id(self)", "revision(self)", "oldest(self)",
        "token(self)", "write(self, updates)", "migrate(self, text)", "preview(self, updates)",
        "preview_migration(self, text)", "relationships(self, at)", "schema_text(self, at)", "grants(self, at)",
        "snapshot(self, at)", "check(self, target, name, subject, at)", "entry(self, revision)",
        "changes(self, first, second)", "compact(self, revision)",
    ],
    ("replica", "Replica"): [
        "__init__(self, snapshot)", "store_id(self)", "revision(self)", "receive(self, entry)", "waiting(self)",
        "waiting_entries(self)", "check(self, target, name, subject, at_least)", "snapshot(self)",
    ],
}


def defined_in(body):
    return [f"{node.name}({ast.unparse(node.args)})" for node in body if isinstance(node, ast.FunctionDef)]


def body_of(module):
    return ast.parse((PACKAGE / f"{module}.py").read_text()).body


class InterfaceTest(unittest.TestCase):
    def test_functions_are_defined_in_their_files(self):
        for module, wanted in FUNCTIONS.items():
            self.assertLessEqual(set(wanted), set(defined_in(body_of(module))), module)

    def test_methods_are_defined_in_their_classes(self):
        for (module, name), wanted in CLASSES.items():
            found = [node for node in body_of(module) if isinstance(node, ast.ClassDef) and node.name == name]
            self.assertEqual(len(found), 1, name)
            self.assertLessEqual(set(wanted), set(defined_in(found[0].body)), name)

    def test_the_package_holds_modules_only(self):
        names = [path.name for path in PACKAGE.iterdir() if path.name != "__pycache__"]
        self.assertIn("__init__.py", names)
        self.assertTrue(all(name.endswith(".py") and not name.startswith("test") for name in names))

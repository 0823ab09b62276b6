"""The names, arguments and places of the interface, and that the package holds nothing but modules."""

import ast
import pathlib
import unittest

PACKAGE = pathlib.Path(__file__).resolve().parent.parent / "authsync"

FUNCTIONS = {
    "names": [
        "is_identifier(text)", "is_object(text)", "is_reference(text)", "type_of(target)", "split_reference(reference)",
        "token_of(store, revision)", "split_token(text)",
    ],
    "schema": [
        "read_schema(text)", "schema_text(schema)", "definition(schema, kind, name)", "names_of(schema, kind)",
        "strata(schema)",
    ],
    "tables": [
        "conforms(schema, relationship)", "check_relationships(schema, relationships)",
        "check_question(schema, target, name, subject)", "evaluate(schema, relationships)",
        "ranked(schema, relationships)",
    ],
    "certificates": [
        "certify(schema, relationships, target, name, subject)",
        "verify(schema, relationships, target, name, subject, certificate)",
    ],
    "changes": [
        "difference(before, after)", "applies(grants, change)", "apply_change(grants, change)", "compose(first, second)",
    ],
    "audits": ["audit(snapshot, entries, log)"],
    "journal": ["write_log(log)", "read_log(text)"],
    "notation": ["write_snapshot(snapshot)", "write_feed(entries)", "read_snapshot(text)", "read_feed(text)"],
    "links": ["read_request(text)", "answer_to(primary, request)"],
    "why": [
        "revoking(schema, relationships, target, name, subject)",
        "giving(schema, relationships, candidates, target, name, subject)",
    ],
    "whatif": ["effects(schema, relationships, other_schema, other_relationships)"],
    "expectations": [
        "read_expectations(text)", "failures(schema, relationships, expectations)", "mutants(schema)",
        "mutated(schema, mutant)", "untold(schema, relationships, expectations)",
    ],
    "expansion": ["who(schema, relationships, target, name)", "expand(schema, relationships, target, name)"],
    "comparing": [
        "atoms_of(schema, kind, name)", "is_held(schema, kind, name, atoms)", "apart(schema, kind, one, other)",
        "example(schema, kind, one, other, subject_kind)", "classes_of(schema, kind)",
    ],
    "restoring": ["updates_between(before, after)", "restore(primary, at)"],
    "netting": ["net_change(entries)", "news_for(entries, subject)", "flips(entries)", "digest(entries)"],
    "demands": ["read_demand(text)"],
    "listing": ["first_page(primary, question, size)", "next_page(primary, cursor, size)"],
}
CLASSES = {
    ("errors", "AuthError"): [],
    ("errors", "BadSchema"): ["__init__(self, line, what)"],
    ("errors", "BadFeed"): ["__init__(self, line, what)"],
    ("errors", "Refused"): ["__init__(self, what, index=-1)"],
    ("primary", "Primary"): [
        "__init__(self, store, text, relationships=())", "store_id(self)", "revision(self)", "oldest(self)",
        "token(self)", "write(self, updates)", "migrate(self, text)", "preview(self, updates)",
        "preview_migration(self, text)", "relationships(self, at)", "schema_text(self, at)", "grants(self, at)",
        "snapshot(self, at)", "check(self, target, name, subject, at)", "entry(self, revision)",
        "changes(self, first, second)", "compact(self, revision)",
    ],
    ("replica", "Replica"): [
        "__init__(self, snapshot)", "store_id(self)", "revision(self)", "receive(self, entry)", "waiting(self)",
        "waiting_entries(self)", "check(self, target, name, subject, at_least)", "snapshot(self)",
    ],
    ("caches", "Cache"): [
        "__init__(self, store, revision, capacity)", "store_id(self)", "revision(self)", "size(self)",
        "questions(self)", "store(self, target, name, subject, answer)", "apply(self, entry)",
        "lookup(self, target, name, subject, at_least)", "check(self, replica, target, name, subject, at_least)",
    ],
    ("contents", "ContentStore"): [
        "__init__(self, primary)", "put(self, target, text)", "version(self, target)", "token(self, target)",
        "read(self, reader, target, name, subject)",
    ],
    ("journal", "Journal"): [
        "__init__(self)", "ask(self, client, reader, target, name, subject)", "log(self)", "token_of(self, client)",
        "forget(self, client)",
    ],
    ("links", "Follower"): [
        "__init__(self, snapshot)", "store_id(self)", "revision(self)",
        "check(self, target, name, subject, at_least)", "ask(self)", "take(self, text)",
    ],
    ("watching", "Watch"): [
        "__init__(self, snapshot, name, subject)", "revision(self)", "token(self)", "objects(self)",
        "advance(self, entry)",
    ],
    ("demands", "Demand"): [
        "__init__(self)", "note(self, token)", "take(self, other)", "token_for(self, store)", "tokens(self)",
        "text(self)", "is_met(self, store, revision)",
    ],
    ("succession", "Succession"): [
        "__init__(self, primary)", "primary(self)", "ids(self)", "hand_over(self, store)", "demanded(self, token)",
    ],
}


def defined_in(body):
    return [f"{node.name}({ast.unparse(node.args)})" for node in body if isinstance(node, ast.FunctionDef)]


def body_of(module):
    return ast.parse((PACKAGE / f"{module}.py").read_text()).body


class InterfaceTest(unittest.TestCase):
    def test_functions_are_defined_in_their_files(self):
        for module, wanted in FUNCTIONS.items():
            self.assertLessEqual(set(wanted), set(defined_in(body_of(module))), module)

    def test_methods_are_defined_in_their_classes(self):
        for (module, name), wanted in CLASSES.items():
            found = [node for node in body_of(module) if isinstance(node, ast.ClassDef) and node.name == name]
            self.assertEqual(len(found), 1, name)
            self.assertLessEqual(set(wanted), set(defined_in(found[0].body)), name)

    def test_the_package_holds_modules_only(self):
        names = [path.name for path in PACKAGE.iterdir() if path.name != "__pycache__"]
        self.assertIn("__init__.py", names)
        self.assertTrue(all(name.endswith(".py") and not name.startswith("test") for name in names))

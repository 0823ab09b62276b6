"""Schemas: reading, writing, and the strata of their names."""

from authsync.errors import BadSchema
from authsync.schema_lines import read_rows


def has_type(schema, kind):
    """Return whether a schema has a type."""
    return kind in [known for known, _ in schema]


def _entries_of(schema, kind):
    """Return the entries of a type, none for a type that there is not."""
    for known, entries in schema:
        if known == kind:
            return entries
    return ()


def names_of(schema, kind):
    """Return the names of a type, in order."""
    return [entry[0] for entry in _entries_of(schema, kind)]


def definition(schema, kind, name):
    """Return the kind of the entry that defines a name of a type, and its parts; None if there is none."""
    for known, word, parts in _entries_of(schema, kind):
        if known == name:
            return (word, parts)
    return None


def kinds_led_to(schema, kind, relation, name):
    """Return the types with the name that are subjects without a name of the relation of a type."""
    found = definition(schema, kind, relation)
    if found is None or found[0] != "relation":
        return []
    return [led for led, part in found[1] if part == "" and name in names_of(schema, led)]


def _check_unique(rows):
    """Raise BadSchema for the first line that defines something again."""
    types = {}
    names = {}
    for number, word, name, _ in rows:
        if name in (types if word == "type" else names):
            raise BadSchema(number, "duplicate name")
        if word == "type":
            types[name] = True
            names = {}
        else:
            names[name] = True


def _schema_of(rows):
    """Return the schema whose lines are given."""
    types = []
    for _, word, name, parts in rows:
        if word == "type":
            types.append((name, []))
        else:
            types[-1][1].append((name, word, parts))
    return tuple([(kind, tuple(entries)) for kind, entries in types])


def _is_known_subject(schema, subject):
    """Return whether a schema has the type of a subject, and the type its name."""
    kind, name = subject
    return has_type(schema, kind) and (name == "" or name in names_of(schema, kind))


def _is_known_term(schema, kind, term):
    """Return whether a term of a permission of a type leads to a name."""
    _, relation, name = term
    if relation == "":
        return name in names_of(schema, kind)
    return kinds_led_to(schema, kind, relation, name) != []


def _check_known(rows, schema):
    """Raise BadSchema for the first line that uses what is not defined."""
    kind = ""
    for number, word, name, parts in rows:
        if word == "type":
            kind = name
            known = True
        elif word == "relation":
            known = all(_is_known_subject(schema, subject) for subject in parts)
        else:
            known = all(_is_known_term(schema, kind, term) for term in parts)
        if not known:
            raise BadSchema(number, "unknown name")


def read_schema(text):
    """Return the schema of a text; raise BadSchema if it has a fault."""
    rows = read_rows(text)
    _check_unique(rows)
    schema = _schema_of(rows)
    _check_known(rows, schema)
    if strata(schema) is None:
        raise BadSchema(0, "recursion through exclusion")
    return schema


def _subject_text(subject):
    """Return the text of a subject."""
    kind, name = subject
    return kind if name == "" else f"{kind}#{name}"


def _term_text(term):
    """Return the text of a term, with its operator before it."""
    operator, relation, name = term
    text = name if relation == "" else f"{relation}.{name}"
    return text if operator == "" else f" {operator} {text}"


def _entry_text(entry):
    """Return the line of a relation or a permission."""
    name, word, parts = entry
    if word == "relation":
        listed = ", ".join([_subject_text(subject) for subject in parts])
        return f"  relation {name}: {listed}"
    joined = "".join([_term_text(term) for term in parts])
    return f"  permission {name} = {joined}"


def schema_text(schema):
    """Return the canonical text of a schema."""
    lines = []
    for kind, entries in schema:
        lines.append("type " + kind)
        lines.extend([_entry_text(entry) for entry in entries])
    return "\n".join(lines)


def _needs_of(schema, kind, entry):
    """Return (type, name, least distance of the strata) for all on which an entry depends."""
    _, word, parts = entry
    if word == "relation":
        return [(subject, name, 0) for subject, name in parts if name != ""]
    needs = []
    for operator, relation, name in parts:
        kinds = [kind] if relation == "" else kinds_led_to(schema, kind, relation, name)
        distance = 1 if operator == "-" else 0
        needs.extend([(led, name, distance) for led in kinds])
    return needs


def _least_stratum(needs, levels):
    """Return the least stratum that the strata of what is needed allow."""
    return max([levels[(kind, name)] + distance for kind, name, distance in needs], default=0)


def strata(schema):
    """Return the dict from (type, name) to the stratum; None if a schema has no strata."""
    needs = {(kind, entry[0]): _needs_of(schema, kind, entry) for kind, entries in schema for entry in entries}
    levels = {pair: 0 for pair in needs}
    # Without recursion through exclusion no chain of needs that raises a stratum has a name
    # twice, so that the strata stand still after as many rounds as there are names.
    for _ in range(len(needs) + 1):
        raised = {pair: _least_stratum(needs[pair], levels) for pair in needs}
        if raised == levels:
            return levels
        levels = raised
    return None

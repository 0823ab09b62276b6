"""The lines of a schema's text, each read by itself."""

from authsync.errors import BadSchema
from authsync.names import WORD_SIGNS, is_identifier

TYPE_LIMIT = 8
NAME_LIMIT = 8
SUBJECT_LIMIT = 8
TERM_LIMIT = 16
OPERATORS = ("|", "&", "-")


def _split_line(line):
    """Return the words and the signs of a line, in order."""
    parts = []
    word = ""
    # The space behind the line ends its last word.
    for sign in line + " ":
        if sign in WORD_SIGNS:
            word += sign
            continue
        if word:
            parts.append(word)
        word = ""
        if sign != " ":
            parts.append(sign)
    return parts


def _chunks(parts, signs):
    """Return the lists of parts between signs, each with the sign before it."""
    chunks = [("", [])]
    for part in parts:
        if part in signs:
            chunks.append((part, []))
        else:
            chunks[-1][1].append(part)
    return chunks


def _names_in(chunk, joint):
    """Return the name that a chunk is, or the two that a joint connects; otherwise an empty list."""
    if len(chunk) == 3 and chunk[1] == joint:
        names = [chunk[0], chunk[2]]
    elif len(chunk) == 1:
        names = chunk
    else:
        return []
    return names if all(is_identifier(name) for name in names) else []


def _read_subjects(parts):
    """Return the subjects of a relation from what stands behind its colon, or None."""
    rows = [_names_in(chunk, "#") for _, chunk in _chunks(parts, (",",))]
    if [] in rows or len(rows) > SUBJECT_LIMIT:
        return None
    return tuple([(names[0], names[1] if len(names) == 2 else "") for names in rows])


def _read_terms(parts):
    """Return the terms of a permission from what stands behind its equals sign, or None."""
    rows = [(operator, _names_in(chunk, ".")) for operator, chunk in _chunks(parts, OPERATORS)]
    if [] in [names for _, names in rows] or len(rows) > TERM_LIMIT:
        return None
    return tuple([(operator, names[0] if len(names) == 2 else "", names[-1]) for operator, names in rows])


def _read_line(line):
    """Return the first word, the name and the parts of a line, or None if it has none of the forms."""
    parts = _split_line(line)
    if len(parts) < 2 or not is_identifier(parts[1]):
        return None
    word = parts[0]
    found = None
    if word == "type" and len(parts) == 2:
        found = ()
    elif word == "relation" and parts[2:3] == [":"]:
        found = _read_subjects(parts[3:])
    elif word == "permission" and parts[2:3] == ["="]:
        found = _read_terms(parts[3:])
    return None if found is None else (word, parts[1], found)


def read_rows(text):
    """Return (number, first word, name, parts) for each line that is not of spaces alone.

    Raises BadSchema, "syntax error", for the first line that cannot stand where it stands.
    """
    rows = []
    types = 0
    names = 0
    for number, line in enumerate(text.split("\n"), start=1):
        if line.strip(" ") == "":
            continue
        row = _read_line(line)
        if row is None:
            raise BadSchema(number, "syntax error")
        if row[0] == "type":
            types += 1
            names = 0
        else:
            names += 1
        if not 1 <= types <= TYPE_LIMIT or names > NAME_LIMIT:
            raise BadSchema(number, "syntax error")
        rows.append((number, *row))
    return rows

"""Identifiers, objects, references and tokens."""

LETTERS = "abcdefghijklmnopqrstuvwxyz"
DIGITS = "0123456789"
WORD_SIGNS = "abcdefghijklmnopqrstuvwxyz0123456789_"
WORD_LIMIT = 20
GREATEST_REVISION = 1000
REVISION_DIGITS = 4


def _is_word(text):
    """Return whether a text is 1 to 20 letters, digits and underscores."""
    return 1 <= len(text) <= WORD_LIMIT and all(sign in WORD_SIGNS for sign in text)


def is_identifier(text):
    """Return whether a text is an identifier."""
    return _is_word(text) and text[0] in LETTERS


def is_object(text):
    """Return whether a text is an object."""
    kind, _, rest = text.partition(":")
    return is_identifier(kind) and _is_word(rest)


def is_reference(text):
    """Return whether a text is a reference."""
    target, sign, name = text.partition("#")
    return is_object(target) and (sign == "" or is_identifier(name))


def is_grant(target, name, subject):
    """Return whether texts are the parts of a grant or a question: an object, an identifier and an object."""
    return is_object(target) and is_identifier(name) and is_object(subject)


def type_of(target):
    """Return the type of an object."""
    return target.partition(":")[0]


def split_reference(reference):
    """Return the object and the name of a reference, the empty text without a name."""
    target, _, name = reference.partition("#")
    return (target, name)


def read_revision(text):
    """Return the revision that a text of digits names, or None if it names none."""
    # The length is tested first because int() refuses thousands of digits.
    if not 1 <= len(text) <= REVISION_DIGITS or not all(sign in DIGITS for sign in text):
        return None
    if text[0] == "0" and text != "0":
        return None
    revision = int(text)
    return revision if revision <= GREATEST_REVISION else None


def token_of(store, revision):
    """Return the token of a revision of a store."""
    return f"{store}@{revision}"


def split_token(text):
    """Return the store and the revision of a token, or None if the text is no token."""
    store, _, digits = text.partition("@")
    revision = read_revision(digits)
    if revision is None or not is_identifier(store):
        return None
    return (store, revision)

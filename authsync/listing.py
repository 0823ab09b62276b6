"""Lists of the objects and of the subjects of grants, in pages of one revision."""

from authsync.errors import Refused
from authsync.names import is_identifier, is_object, split_token, type_of

PAGE_LIMIT = 100


def first_page(primary, question, size):
    """Return the first items of a list by the present revision, and the cursor behind them."""
    if not _is_question(question):
        raise Refused("no question")
    return _page(primary, primary.token(), question, "", size)


def next_page(primary, cursor, size):
    """Return the items behind a cursor by the revision of its token, and the cursor behind them."""
    words = cursor.split(" ")
    if not _is_cursor(words):
        raise Refused("no cursor")
    return _page(primary, words[0], words[1:-1], words[-1], size)


def _is_question(question):
    """Return whether texts are the parts of a list question."""
    if len(question) != 4:
        return False
    word, asked, name, given = question
    if word == "objects":
        return is_identifier(asked) and is_identifier(name) and is_object(given)
    return word == "subjects" and is_object(asked) and is_identifier(name) and is_identifier(given)


def _is_cursor(words):
    """Return whether words are those of a cursor."""
    question = words[1:-1]
    if split_token(words[0]) is None or not _is_question(question):
        return False
    return is_object(words[-1]) and type_of(words[-1]) == _type_of_items(question)


def _type_of_items(question):
    """Return the type of the items for which a list question asks."""
    return question[1] if question[0] == "objects" else question[3]


def _page(primary, token, question, last, size):
    """Return the items behind the last one before, by the revision of a token, and the cursor behind them."""
    if not 1 <= size <= PAGE_LIMIT:
        raise Refused("page size")
    items = [item for item in _items(primary.grants(token), question) if item > last]
    page = items[:size]
    return (page, "" if page == items else " ".join([token, *question, page[-1]]))


def _items(grants, question):
    """Return all items of a list by the grants of a table, ascending."""
    word, asked, name, given = question
    if word == "objects":
        return [
            target for target, held, subject in grants if (held, subject) == (name, given) and type_of(target) == asked
        ]
    return [
        subject for target, held, subject in grants if (target, held) == (asked, name) and type_of(subject) == given
    ]

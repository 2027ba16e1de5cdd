"""Commands: lines that write deeds."""

from appendhall.deeds import has_form, item_kinds, paths_of
from appendhall.errors import BadCommand, BadPath
from appendhall.paths import is_path
from appendhall.values import is_text

_DIGITS = "0123456789"
_DIGITS_MOST = 18


def parse_command(line):
    """Return the deed that a line writes."""
    words = _split_words(line)
    name = words[0]
    kinds = item_kinds(name)
    if kinds is None or len(words) != len(kinds) + 1:
        raise BadCommand("the line has none of the forms of a command")
    items = [_item(word, kind) for word, kind in zip(words[1:], kinds)]
    deed = (name,) + tuple(items)
    _check_paths(deed)
    return deed


def format_command(deed):
    """Return the command that writes a deed."""
    if not has_form(deed):
        raise BadCommand("this is not a deed of one of the seven forms")
    words = [str(item) for item in deed]
    if deed[0] == "limit" and len(words[2]) > _DIGITS_MOST:
        raise BadCommand("the number has too many digits")
    _check_paths(deed)
    return " ".join(words)


def _split_words(line):
    # A text is one word, whatever spaces it has.
    if line.startswith("append "):
        return line.split(" ", 2)
    return line.split(" ")


def _item(word, kind):
    """Return the item of a deed that a word writes; whether a path is one is not asked yet."""
    if kind == "number":
        return _number(word)
    if kind == "text" and not is_text(word):
        raise BadCommand("what is to be appended is not a text")
    return word


def _number(word):
    if not 1 <= len(word) <= _DIGITS_MOST or not all([char in _DIGITS for char in word]):
        raise BadCommand("the number is not written in one to 18 digits")
    if word[0] == "0" and word != "0":
        raise BadCommand("the number begins with a zero")
    return int(word)


def _check_paths(deed):
    if not all([is_path(path) for path in paths_of(deed)]):
        raise BadPath("the deed has a word that is not a path in the place of one")

"""Paths: names with a slash in front of each."""

from appendhall.errors import BadPath

NAMES_MOST = 6

_ROOT = "/"
_NAME_MOST = 12
_NAME_CHARS = ".-abcdefghijklmnopqrstuvwxyz0123456789"


def split_path(path):
    """Return the names of a path."""
    if not isinstance(path, str):
        raise BadPath("a path is a text")
    if path == _ROOT:
        return []
    ahead, *names = path.split("/")
    if ahead != "" or not names or not _are_names(names):
        raise BadPath("this text is not a path")
    return names


def join_path(names):
    """Return the path with these names."""
    if not isinstance(names, list) or not _are_names(names):
        raise BadPath("this is not a list of names for a path")
    return _ROOT + "/".join(names)


def is_path(thing):
    """Tell whether any object is a path."""
    try:
        split_path(thing)
    except BadPath:
        return False
    return True


def is_within(path, other):
    """Tell whether a path is within another path."""
    names = split_path(path)
    outer = split_path(other)
    return names[:len(outer)] == outer


def _are_names(things):
    return len(things) <= NAMES_MOST and all([_is_name(thing) for thing in things])


def _is_name(thing):
    if not isinstance(thing, str) or not 1 <= len(thing) <= _NAME_MOST:
        return False
    if thing == "." or thing == "..":
        return False
    return all([char in _NAME_CHARS for char in thing])

"""Queries about the tree of files."""

from appendhall.nodes import Directory, File
from appendhall.paths import is_path, split_path
from appendhall.values import is_integer, is_text


def answer_query(tree, query):
    """Return the answer to a query about a tree."""
    if not isinstance(query, tuple) or len(query) != 2:
        return ("refused", "deed")
    word, item = query
    if word == "content" and is_integer(item):
        return _content(tree, item)
    if word == "find" and is_text(item):
        return _find(tree, item)
    if word == "names" and is_text(item):
        return _names(tree, item)
    return ("refused", "deed")


def _content(tree, number):
    if not 0 <= number < len(tree):
        return ("refused", "missing")
    node = tree.node(number)
    if isinstance(node, Directory):
        return ("refused", "kind")
    mark = 1 if node.sealed else 0
    return ("content", number, mark, node.pieces)


def _find(tree, path):
    found = _look_up(tree, path)
    if isinstance(found, str):
        return ("refused", found)
    mark = 1 if isinstance(tree.node(found), File) else 0
    return ("node", found, mark, tree.size_of(found))


def _names(tree, path):
    found = _look_up(tree, path)
    if isinstance(found, str):
        return ("refused", found)
    node = tree.node(found)
    if isinstance(node, File):
        return ("refused", "kind")
    return ("names", tuple(node.names()))


def _look_up(tree, path):
    """Return the number of the node at what should be a path, or the word of the refusal."""
    if not is_path(path):
        return "path"
    return tree.look_up(split_path(path))

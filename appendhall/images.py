"""Images of trees: a tree as a value, and back."""

from appendhall.nodes import Directory, File
from appendhall.tree import Tree

_FILE = "file"
_DIRECTORY = "directory"

# No limit is below 0.
_NO_LIMIT = -1


def tree_image(tree):
    """Return the image of a tree."""
    return tuple([_node_image(tree.node(number)) for number in range(len(tree))])


def tree_from_image(image):
    """Return the tree that is read back from an image."""
    return Tree.holding([_node_from_image(row) for row in image])


def _node_image(node):
    if isinstance(node, File):
        mark = 1 if node.sealed else 0
        return (_FILE, mark, node.pieces)
    most = _NO_LIMIT if node.limit is None else node.limit
    entries = tuple([(name, node.child(name)) for name in node.names()])
    return (_DIRECTORY, most, entries)


def _node_from_image(row):
    word, number, parts = row
    if word == _FILE:
        return _file_from_image(number, parts)
    return _directory_from_image(number, parts)


def _file_from_image(mark, pieces):
    node = File()
    for piece in pieces:
        node.add_piece(piece)
    if mark == 1:
        node.seal()
    return node


def _directory_from_image(most, entries):
    node = Directory()
    if most != _NO_LIMIT:
        node.set_limit(most)
    for name, number in entries:
        node.put(name, number)
    return node

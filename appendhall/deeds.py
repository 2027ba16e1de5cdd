"""Deeds: what the deed of a record does to the tree of files."""

from appendhall.nodes import Directory, File
from appendhall.paths import NAMES_MOST, is_path, is_within, split_path
from appendhall.records import is_deed
from appendhall.values import is_number, is_text

NODES_MOST = 64

# What stands behind the word of each form.
_FORMS = {
    "mkdir": ("path",),
    "create": ("path",),
    "append": ("path", "text"),
    "seal": ("path",),
    "move": ("path", "path"),
    "snapshot": ("path", "path"),
    "limit": ("path", "number"),
}


def item_kinds(word):
    """Return the kinds of the items behind the word of a form, or None if it is the word of none."""
    return _FORMS.get(word)


def has_form(thing):
    """Tell whether any object is a deed of one of the seven forms."""
    if not is_deed(thing):
        return False
    kinds = item_kinds(thing[0])
    items = thing[1:]
    if kinds is None or len(items) != len(kinds):
        return False
    return all([_fits(item, kind) for item, kind in zip(items, kinds)])


def paths_of(deed):
    """Return the items of a deed of one of the seven forms that must be paths."""
    return [item for item, kind in zip(deed[1:], item_kinds(deed[0])) if kind == "path"]


def _fits(item, kind):
    if kind == "number":
        return is_number(item)
    return is_text(item)


# What follows finds the word of a refusal. It returns None if nothing stands against the deed.


def _fault_in_form(deed):
    if not has_form(deed):
        return "deed"
    if not all([is_path(path) for path in paths_of(deed)]):
        return "path"
    return None


def _fault_of_new_node(tree, deed):
    return _fault_of_place(tree, deed[1]) or _fault_of_count(tree)


def _fault_of_append(tree, deed):
    _, path, text = deed
    found = _look_up(tree, path)
    fault = _fault_of_open_file(tree, found)
    if fault is not None:
        return fault
    if text == "":
        return "empty"
    return _fault_of_limits(tree, tree.above(found), len(text))


def _fault_of_seal(tree, deed):
    return _fault_of_open_file(tree, _look_up(tree, deed[1]))


def _fault_of_move(tree, deed):
    _, path, new = deed
    names = split_path(path)
    if not names:
        return "root"
    found = tree.look_up(names)
    if isinstance(found, str):
        return found
    if is_within(new, path):
        return "within"
    fault = _fault_of_place(tree, new)
    if fault is not None:
        return fault
    if len(split_path(new)) + tree.height_of(found) > NAMES_MOST:
        return "deep"
    # A directory that stays above the node keeps its size.
    above = tree.above(found)
    entered = [number for number in _above_place(tree, new) if number not in above]
    return _fault_of_limits(tree, entered, tree.size_of(found))


def _fault_of_snapshot(tree, deed):
    _, path, new = deed
    found = _look_up(tree, path)
    fault = _fault_of_file(tree, found) or _fault_of_place(tree, new) or _fault_of_count(tree)
    if fault is not None:
        return fault
    return _fault_of_limits(tree, _above_place(tree, new), tree.size_of(found))


def _fault_of_limit(tree, deed):
    _, path, most = deed
    found = _look_up(tree, path)
    if isinstance(found, str):
        return found
    if isinstance(tree.node(found), File):
        return "kind"
    if tree.size_of(found) > most:
        return "limit"
    return None


def _fault_of_file(tree, found):
    """Return the word if what was looked up is not a file."""
    if isinstance(found, str):
        return found
    if isinstance(tree.node(found), Directory):
        return "kind"
    return None


def _fault_of_open_file(tree, found):
    """Return the word if what was looked up is not a file that is not sealed."""
    fault = _fault_of_file(tree, found)
    if fault is not None:
        return fault
    if tree.node(found).sealed:
        return "sealed"
    return None


def _fault_of_place(tree, path):
    """Return the word if no new entry can be made at a path."""
    names = split_path(path)
    if not names:
        return "exists"
    found = tree.look_up(names[:-1])
    if isinstance(found, str):
        return found
    parent = tree.node(found)
    if isinstance(parent, File):
        return "kind"
    if parent.child(names[-1]) is not None:
        return "exists"
    return None


def _fault_of_count(tree):
    if len(tree) >= NODES_MOST:
        return "full"
    return None


def _fault_of_limits(tree, directories, more):
    """Return the word if one of the directories cannot hold so many characters more."""
    for number in directories:
        most = tree.node(number).limit
        if most is not None and most < tree.size_of(number) + more:
            return "limit"
    return None


# What follows does a deed that nothing stands against, and returns its answer.


def _make_directory(tree, stamp, deed):
    return ("made", _attach(tree, deed[1], Directory()))


def _create_file(tree, stamp, deed):
    return ("made", _attach(tree, deed[1], File()))


def _append_piece(tree, stamp, deed):
    _, path, text = deed
    found = _look_up(tree, path)
    number, client, serial = stamp
    offset = tree.node(found).add_piece((number, client, serial, text))
    return ("written", number, found, offset)


def _seal_file(tree, stamp, deed):
    found = _look_up(tree, deed[1])
    tree.node(found).seal()
    return ("sealed", found, tree.size_of(found))


def _move_node(tree, stamp, deed):
    _, path, new = deed
    found = _look_up(tree, path)
    parent, name = _place(tree, new)
    tree.move_node(found, parent, name)
    return ("moved", found)


def _copy_file(tree, stamp, deed):
    _, path, new = deed
    found = _look_up(tree, path)
    return ("made", _attach(tree, new, tree.node(found).sealed_copy()))


def _set_limit(tree, stamp, deed):
    _, path, most = deed
    found = _look_up(tree, path)
    tree.node(found).set_limit(most)
    return ("limited", found, tree.size_of(found))


def _look_up(tree, path):
    """Return the number of the node at a path, or the word of the failure."""
    return tree.look_up(split_path(path))


def _place(tree, path):
    """Return the directory and the name of the entry at a path."""
    *ahead, name = split_path(path)
    return tree.look_up(ahead), name


def _above_place(tree, path):
    """Return the directories that are above an entry at a path."""
    parent, _ = _place(tree, path)
    return [parent] + tree.above(parent)


def _attach(tree, path, node):
    parent, name = _place(tree, path)
    return tree.attach(parent, name, node)


_FAULTS = {
    "mkdir": _fault_of_new_node,
    "create": _fault_of_new_node,
    "append": _fault_of_append,
    "seal": _fault_of_seal,
    "move": _fault_of_move,
    "snapshot": _fault_of_snapshot,
    "limit": _fault_of_limit,
}

_ACTIONS = {
    "mkdir": _make_directory,
    "create": _create_file,
    "append": _append_piece,
    "seal": _seal_file,
    "move": _move_node,
    "snapshot": _copy_file,
    "limit": _set_limit,
}


def apply_deed(tree, stamp, deed):
    """Apply a deed to a tree and return the answer."""
    fault = _fault_in_form(deed)
    if fault is None:
        find_fault = _FAULTS[deed[0]]
        fault = find_fault(tree, deed)
    if fault is not None:
        return ("refused", fault)
    act = _ACTIONS[deed[0]]
    return act(tree, stamp, deed)

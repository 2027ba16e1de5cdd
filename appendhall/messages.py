"""Messages: what a machine may send to another one."""

from appendhall.kinds import CLIENT, JOURNAL, MANAGER
from appendhall.records import is_deed
from appendhall.values import is_number

# For each word the kind of the sender, the kind of the receiver, and the kinds of the items behind the word.
_FORMS = {
    "promise": ("manager", "journal", ("number",)),
    "sync": ("manager", "journal", ("number", "log")),
    "edit": ("manager", "journal", ("number", "count", "tuple")),
    "purge": ("manager", "journal", ("number", "number", "any")),
    "ping": ("manager", "journal", ("number", "number")),
    "promised": ("journal", "manager", ("number", "number", "log")),
    "synced": ("journal", "manager", ("number", "number")),
    "ponged": ("journal", "manager", ("number", "number")),
    "refused": ("journal", "manager", ("number", "number")),
    "request": ("client", "manager", ("count", "deed")),
    "read": ("client", "manager", ("count", "deed")),
    "answer": ("manager", "client", ("count", "any")),
    "value": ("manager", "client", ("count", "number", "any")),
}


def is_machine(thing):
    """Tell whether any object names a machine."""
    if not isinstance(thing, tuple) or len(thing) != 2:
        return False
    kind, number = thing
    # The kind may be any object: only a string may be compared with the three kinds.
    if not isinstance(kind, str) or kind not in (JOURNAL, MANAGER, CLIENT):
        return False
    return is_number(number)


def is_body(sender, receiver, body):
    """Tell whether a machine of one kind may send any object as a body to one of another kind."""
    if not isinstance(body, tuple) or not body or not isinstance(body[0], str):
        return False
    if body[0] not in _FORMS:
        return False
    source, target, kinds = _FORMS[body[0]]
    items = body[1:]
    if sender != source or receiver != target or len(items) != len(kinds):
        return False
    return all([_fits(item, kind) for item, kind in zip(items, kinds)])


def is_message(thing):
    """Tell whether any object is a message."""
    if not isinstance(thing, tuple) or len(thing) != 3:
        return False
    sender, receiver, body = thing
    if not is_machine(sender) or not is_machine(receiver):
        return False
    return is_body(sender[0], receiver[0], body)


def _fits(item, kind):
    if kind == "number":
        return is_number(item)
    if kind == "count":
        return is_number(item) and item >= 1
    if kind == "deed":
        return is_deed(item)
    if kind == "log":
        return _is_log_value(item)
    if kind == "tuple":
        return isinstance(item, tuple)
    return True


def _is_log_value(thing):
    if not isinstance(thing, tuple) or len(thing) != 3:
        return False
    return is_number(thing[0]) and isinstance(thing[2], tuple)

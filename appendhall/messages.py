"""Messages: what a machine may send to another one."""

from appendhall.kinds import CLIENT, JOURNAL, MANAGER
from appendhall.records import is_deed
from appendhall.values import is_number

# What an item of a body may be.
_NUMBER = "number"
_COUNT = "number from 1 on"
_DEED = "deed"
_LOG = "log value"
_TUPLE = "tuple"
_ANY = "anything"

# For each word the sender, the receiver and the items behind the word.
_FORMS = {
    "promise": (MANAGER, JOURNAL, (_NUMBER,)),
    "sync": (MANAGER, JOURNAL, (_NUMBER, _LOG)),
    "edit": (MANAGER, JOURNAL, (_NUMBER, _COUNT, _TUPLE)),
    "purge": (MANAGER, JOURNAL, (_NUMBER, _NUMBER, _ANY)),
    "ping": (MANAGER, JOURNAL, (_NUMBER, _NUMBER)),
    "promised": (JOURNAL, MANAGER, (_NUMBER, _NUMBER, _LOG)),
    "synced": (JOURNAL, MANAGER, (_NUMBER, _NUMBER)),
    "ponged": (JOURNAL, MANAGER, (_NUMBER, _NUMBER)),
    "refused": (JOURNAL, MANAGER, (_NUMBER, _NUMBER)),
    "request": (CLIENT, MANAGER, (_COUNT, _DEED)),
    "read": (CLIENT, MANAGER, (_COUNT, _DEED)),
    "answer": (MANAGER, CLIENT, (_COUNT, _ANY)),
    "value": (MANAGER, CLIENT, (_COUNT, _NUMBER, _ANY)),
}


def is_machine(thing):
    """Tell whether any object names a machine."""
    if not isinstance(thing, tuple) or len(thing) != 2:
        return False
    kind, number = thing
    # The kind may be any object: only a string may be compared with the three kinds.
    if not isinstance(kind, str) or kind not in (JOURNAL, MANAGER, CLIENT):
        return False
    return is_number(number)


def is_body(sender, receiver, body):
    """Tell whether a machine of one kind may send any object as a body to one of another kind."""
    if not isinstance(body, tuple) or not body or not isinstance(body[0], str):
        return False
    if body[0] not in _FORMS:
        return False
    source, target, kinds = _FORMS[body[0]]
    items = body[1:]
    if sender != source or receiver != target or len(items) != len(kinds):
        return False
    return all([_fits(item, kind) for item, kind in zip(items, kinds)])


def is_message(thing):
    """Tell whether any object is a message."""
    if not isinstance(thing, tuple) or len(thing) != 3:
        return False
    sender, receiver, body = thing
    if not is_machine(sender) or not is_machine(receiver):
        return False
    return is_body(sender[0], receiver[0], body)


def _fits(item, kind):
    if kind == _NUMBER:
        return is_number(item)
    if kind == _COUNT:
        return is_number(item) and item >= 1
    if kind == _DEED:
        return is_deed(item)
    if kind == _LOG:
        return _is_log_value(item)
    if kind == _TUPLE:
        return isinstance(item, tuple)
    return True


def _is_log_value(thing):
    if not isinstance(thing, tuple) or len(thing) != 3:
        return False
    return is_number(thing[0]) and isinstance(thing[2], tuple)

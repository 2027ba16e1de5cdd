"""Records of a log, and the deeds in them."""

from appendhall.values import is_number, is_plain, is_text

_DEED_MOST = 4


def is_deed(thing):
    """Tell whether any object is a deed."""
    if not isinstance(thing, tuple) or not 1 <= len(thing) <= _DEED_MOST:
        return False
    if not is_text(thing[0]) or thing[0] == "":
        return False
    return all([is_plain(item) for item in thing])


def is_record(thing):
    """Tell whether any object is a record."""
    if not isinstance(thing, tuple) or len(thing) != 3:
        return False
    client, serial, deed = thing
    return is_number(client) and is_number(serial) and serial >= 1 and is_deed(deed)

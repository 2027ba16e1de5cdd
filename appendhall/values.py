"""What a value is: an integer, a text, or a tuple of values."""

from appendhall.errors import BadValue

NUMBER_MOST = 10 ** 18
TEXT_MOST = 200
DEPTH_MOST = 12

# The code of the percent sign, which no text contains.
_PERCENT = 37


def is_integer(thing):
    """Tell whether any object is an integer."""
    if not isinstance(thing, int) or isinstance(thing, bool):
        return False
    return -NUMBER_MOST <= thing <= NUMBER_MOST


def is_number(thing):
    """Tell whether any object is a number."""
    return is_integer(thing) and thing >= 0


def is_text(thing):
    """Tell whether any object is a text."""
    if not isinstance(thing, str) or len(thing) > TEXT_MOST:
        return False
    return all([_may_stand_in_text(ord(char)) for char in thing])


def _may_stand_in_text(code):
    return ord(" ") <= code <= ord("~") and code != _PERCENT


def is_plain(thing):
    """Tell whether any object is an integer or a text."""
    return is_integer(thing) or is_text(thing)


def is_value(thing):
    """Tell whether any object is a value."""
    return _is_value_within(thing, DEPTH_MOST)


def _is_value_within(thing, levels):
    if not isinstance(thing, tuple):
        return is_plain(thing)
    if levels == 0:
        return False
    # Items may be one object again and again, so the first wrong one must end the search.
    for item in thing:
        if not _is_value_within(item, levels - 1):
            return False
    return True


def depth(value):
    """Return how deep a value is nested."""
    if not is_value(value):
        raise BadValue("the depth was asked for of something that is not a value")
    return _levels(value)


def _levels(value):
    if not isinstance(value, tuple):
        return 0
    return 1 + max([_levels(item) for item in value], default=0)

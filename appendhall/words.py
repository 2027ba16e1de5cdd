"""Values as flat lists of words, and back."""

from appendhall.errors import BadValue, BadWords
from appendhall.values import DEPTH_MOST, is_integer, is_number, is_text, is_value


def to_words(value):
    """Return the words of a value."""
    if not is_value(value):
        raise BadValue("words were asked for of something that is not a value")
    words = []
    waiting = [value]
    while waiting:
        item = waiting.pop()
        if isinstance(item, tuple):
            words.extend(["t", len(item)])
            # The item that is popped next is the last one, so the first goes there.
            waiting.extend(item[::-1])
        elif isinstance(item, str):
            words.extend(["s", item])
        else:
            words.extend(["i", item])
    return words


def take_value(words, at):
    """Return the value whose words begin at an index, and the index behind them."""
    return _take_within(words, at, DEPTH_MOST)


def from_words(words):
    """Return the value whose words are the whole list."""
    value, end = take_value(words, 0)
    if end != len(words):
        raise BadWords("there are words behind the value")
    return value


def _take_within(words, at, levels):
    mark, body = _word_pair(words, at)
    # A mark may be any object: only a text may be compared with the three marks.
    if not is_text(mark):
        raise BadWords("a mark is not a text")
    if mark == "i" and is_integer(body):
        return body, at + 2
    if mark == "s" and is_text(body):
        return body, at + 2
    if mark == "t" and is_number(body) and levels > 0:
        return _take_items(words, at + 2, body, levels - 1)
    raise BadWords("no value begins here")


def _word_pair(words, at):
    if at < 0 or at + 1 >= len(words):
        raise BadWords("a word is missing")
    return words[at], words[at + 1]


def _take_items(words, at, count, levels):
    items = []
    end = at
    while len(items) < count:
        item, end = _take_within(words, end, levels)
        items.append(item)
    return tuple(items), end

"""Frames: lists of words in consecutive blocks of a disk."""

from appendhall.errors import BadWords
from appendhall.values import NUMBER_MOST, is_integer

PIECE = 8

# How many items stand in a block ahead of the words.
_HEADER = 4


def frame_blocks(generation, number, words):
    """Return the blocks of a frame that holds the words."""
    if not words:
        raise BadWords("a frame holds at least one word")
    starts = range(0, len(words), PIECE)
    count = len(starts)
    blocks = []
    for index, start in enumerate(starts):
        header = (generation, number, index, count)
        blocks.append(header + tuple(words[start:start + PIECE]))
    return blocks


def read_frame(disk, at, generation, number):
    """Return the words of a whole frame and the index behind it, or None."""
    if at > NUMBER_MOST:
        return None
    count = _told_count(disk.read(at))
    if count < 1 or at + count - 1 > NUMBER_MOST:
        return None
    words = []
    for index in range(count):
        least = 1 if index == count - 1 else PIECE
        header = (generation, number, index, count)
        piece = _piece(disk.read(at + index), header, least)
        if piece is None:
            return None
        words.extend(piece)
    return words, at + count


def _told_count(block):
    """Return the count of pieces that a block tells, or 0 if it tells none."""
    if block is None or len(block) < _HEADER or not is_integer(block[_HEADER - 1]):
        return 0
    return block[_HEADER - 1]


def _piece(block, header, least):
    if block is None or block[:_HEADER] != header:
        return None
    words = block[_HEADER:]
    if len(words) < least:
        return None
    return words

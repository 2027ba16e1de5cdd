"""A tape: a list of values on a disk that survives power losses."""

from appendhall.errors import BadBlock, BadWords
from appendhall.frames import frame_blocks, read_frame
from appendhall.values import NUMBER_MOST, is_number
from appendhall.words import from_words, to_words

_HEAD = "head"
_FIRST_START = 2
_BLANK = ()


class Tape:
    """The tape of a disk, opened when it is created."""

    def __init__(self, disk):
        generation, start = _read_head(disk)
        entries, end = _read_entries(disk, generation, start)
        self._disk = disk
        self._generation = generation
        self._entries = entries
        self._end = end
        _mend(disk, end)

    def append(self, value):
        """Append an entry, which is pending until the next sync."""
        number = len(self._entries) + 1
        blocks = frame_blocks(self._generation, number, to_words(value))
        self._write(blocks)
        self._end += len(blocks)
        self._entries.append(value)

    def sync(self):
        """Sync the disk."""
        self._disk.sync()

    def rewrite(self, values):
        """Replace all entries by other ones."""
        generation = self._generation + 1
        blocks = _all_blocks(generation, values)
        self._write(blocks)
        self._disk.sync()
        self._disk.write(generation % 2, (_HEAD, generation, self._end))
        self._disk.sync()
        self._generation = generation
        self._end += len(blocks)
        self._entries = list(values)

    @property
    def generation(self):
        """The generation of the entries."""
        return self._generation

    @property
    def end(self):
        """The index behind the last frame."""
        return self._end

    def entries(self):
        """Return the entries, also those that are pending."""
        return list(self._entries)

    def __len__(self):
        return len(self._entries)

    def __iter__(self):
        return iter(self._entries)

    def _write(self, blocks):
        """Write blocks from the end on, or none of them if there is no room."""
        if self._end + len(blocks) > NUMBER_MOST:
            raise BadBlock("the end of the tape would be above the greatest number")
        for index, block in enumerate(blocks):
            self._disk.write(self._end + index, block)


def _all_blocks(generation, values):
    blocks = []
    for index, value in enumerate(values):
        blocks.extend(frame_blocks(generation, index + 1, to_words(value)))
    return blocks


def _read_head(disk):
    """Return the generation and the start that count."""
    generation = 0
    start = _FIRST_START
    for at in (0, 1):
        block = disk.read(at)
        if _is_head(block, at) and block[1] > generation:
            generation = block[1]
            start = block[2]
    return generation, start


def _is_head(block, at):
    if block is None or len(block) != 3 or block[0] != _HEAD:
        return False
    generation = block[1]
    start = block[2]
    if not is_number(generation) or not is_number(start):
        return False
    return generation >= 1 and generation % 2 == at and start >= _FIRST_START


def _read_entries(disk, generation, start):
    """Return the entries from the start on, and the end."""
    entries = []
    end = start
    while True:
        entry = _read_entry(disk, end, generation, len(entries) + 1)
        if entry is None:
            return entries, end
        value, end = entry
        entries.append(value)


def _read_entry(disk, at, generation, number):
    frame = read_frame(disk, at, generation, number)
    if frame is None:
        return None
    words, end = frame
    try:
        value = from_words(words)
    except BadWords:
        return None
    return value, end


def _mend(disk, end):
    # What a power loss left behind the end could later pass for a frame.
    marked = [at for at in range(end, disk.extent) if disk.read(at) != _BLANK]
    for at in marked:
        disk.write(at, _BLANK)
    if marked:
        disk.sync()

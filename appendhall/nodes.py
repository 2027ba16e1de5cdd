"""Files and directories by themselves."""

from appendhall.errors import Unknown


class File:
    """A file: pieces in the order in which they were added."""

    def __init__(self):
        self._pieces = []
        self._sealed = False
        self._length = 0

    @property
    def pieces(self):
        """The tuple of the pieces."""
        return tuple(self._pieces)

    @property
    def sealed(self):
        """Whether the file is sealed."""
        return self._sealed

    @property
    def length(self):
        """How many characters all pieces have together."""
        return self._length

    def add_piece(self, piece):
        """Put a piece behind the last one and return the length before."""
        offset = self._length
        text = piece[3]
        self._pieces.append(piece)
        self._length += len(text)
        return offset

    def seal(self):
        """Seal the file."""
        self._sealed = True

    def sealed_copy(self):
        """Return a new sealed file with the same pieces."""
        other = File()
        other._pieces = list(self._pieces)
        other._sealed = True
        other._length = self._length
        return other


class Directory:
    """A directory: entries, each a name and the number of a node."""

    def __init__(self):
        self._entries = {}
        self._limit = None

    @property
    def limit(self):
        """The limit, or None."""
        return self._limit

    def set_limit(self, most):
        """Set the limit."""
        self._limit = most

    def names(self):
        """Return the names of the entries in ascending order."""
        return sorted(self._entries)

    def child(self, name):
        """Return the number of the node of an entry, or None."""
        return self._entries.get(name)

    def put(self, name, number):
        """Set the entry with this name."""
        self._entries[name] = number

    def take(self, name):
        """Remove an entry and return the number of its node."""
        if name not in self._entries:
            raise Unknown("there is no entry with this name")
        return self._entries.pop(name)

"""The book: the events of a hall."""


class Book:
    """A book, without events at first."""

    def __init__(self):
        self._events = []

    def note(self, event):
        """Put an event behind the last one."""
        self._events.append(event)

    def events(self):
        """Return all events in order."""
        return list(self._events)

    def __len__(self):
        return len(self._events)

    def __iter__(self):
        return iter(self._events)

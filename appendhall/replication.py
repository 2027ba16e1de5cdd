"""The log of an epoch, and how far the journals have it."""

from appendhall.quorum import commit_point, has_majority


class Replication:
    """The log of an epoch and the lengths that journals have told, none at first."""

    def __init__(self, epoch, log, journals):
        self.epoch = epoch
        self.journals = journals
        self._log = log
        # The greatest length that each journal has told.
        self._lengths = {}

    @property
    def log(self):
        """The log as it is now."""
        return self._log

    def note(self, journal, length):
        """Keep that a journal has told a length."""
        told = self.matched(journal)
        if told is None or length > told:
            self._lengths[journal] = length

    def matched(self, journal):
        """Return the greatest length that a journal has told, or None."""
        return self._lengths.get(journal)

    def synced(self):
        """Tell whether a majority of the journals has told a length."""
        return has_majority(list(self._lengths), self.journals)

    def commit_point(self):
        """Return the commit point of the lengths that were told."""
        return commit_point(self._lengths, self.journals)

    def put(self, record):
        """Put a record behind the log and return the body that tells it to the journals."""
        self._log = self._log.with_record(record)
        return ("edit", self.epoch, self._log.length, (record,))

    def cut(self, number, image):
        """Cut the log and return the body that tells it to the journals."""
        self._log = self._log.cut(number, image)
        return ("purge", self.epoch, number, image)

    def sync_body(self):
        """Return the body that tells the whole log."""
        return ("sync", self.epoch, self._log.value())

    def missing(self, journal):
        """Return the body that a journal is missing, or None."""
        told = self.matched(journal)
        if told is None:
            return self.sync_body()
        if told < self._log.base:
            return ("purge", self.epoch, self._log.base, self._log.image)
        if told < self._log.length:
            return ("edit", self.epoch, told + 1, self._log.after(told))
        return None

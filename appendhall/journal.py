"""A journal: one of the machines that keep the log."""

from appendhall.log import Log
from appendhall.space import Space
from appendhall.tape import Tape

# The first words of the entries of a tape. A state takes the place of all that was there before.
_STATE = "state"
_PROMISE = "promise"
_EDIT = "edit"


class Journal:
    """A journal on its disk."""

    def __init__(self, number, disk):
        self.number = number
        self.promise = 0
        self.epoch = 0
        self._log = Log(0, Space().to_image(), ())
        self._tape = Tape(disk)
        for entry in self._tape.entries():
            self._take(entry)

    @property
    def log(self):
        """The log."""
        return self._log

    def handle(self, body):
        """Handle the body of a message and return the body of the answer."""
        word = body[0]
        epoch = body[1]
        if self._refuses(word, epoch):
            return ("refused", epoch, self.promise)
        if word == "ping":
            return ("ponged", epoch, body[2])
        if word == "promise":
            self._promise_epoch(epoch)
            return ("promised", epoch, self.epoch, self._log.value())
        if word == "sync":
            self._follow(epoch, body[2])
        elif word == "edit":
            self._join(body[2], body[3])
        else:
            self._purge(body[2], body[3])
        return ("synced", epoch, self._log.length)

    def _refuses(self, word, epoch):
        if epoch < self.promise:
            return True
        if word == "promise":
            return epoch == self.epoch
        if word == "edit" or word == "purge":
            return epoch != self.epoch
        return False

    def _promise_epoch(self, epoch):
        if epoch > self.promise:
            self._append((_PROMISE, epoch))

    def _follow(self, epoch, log_value):
        if epoch > self.epoch:
            self._rewrite(epoch, log_value)

    def _join(self, first, records):
        known = self._log.length + 1 - first
        if 0 <= known < len(records):
            self._append((_EDIT, first, records))

    def _purge(self, number, image):
        # A journal whose own epoch is not refused has promised nothing above it.
        if number > self._log.base:
            self._rewrite(self.epoch, self._log.cut(number, image).value())

    def _append(self, entry):
        self._tape.append(entry)
        self._tape.sync()
        self._take(entry)

    def _rewrite(self, epoch, log_value):
        # Both a sync and a purge leave nothing to remember but one state.
        entry = (_STATE, epoch, log_value)
        self._tape.rewrite([entry])
        self._take(entry)

    def _take(self, entry):
        """Change the fields as an entry of the tape tells."""
        if entry[0] == _STATE:
            _, epoch, log_value = entry
            self.promise = epoch
            self.epoch = epoch
            self._log = Log.from_value(log_value)
        elif entry[0] == _PROMISE:
            self.promise = entry[1]
        else:
            _, first, records = entry
            self._log = self._log.joined(first, records)

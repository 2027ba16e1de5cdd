"""A manager: one of the machines that take the requests of the clients and lead the journals."""

from appendhall.election import Election
from appendhall.epochs import next_epoch
from appendhall.kinds import CLIENT, JOURNAL
from appendhall.log import Log
from appendhall.reads import Reads
from appendhall.replay import replay, tail_serial
from appendhall.replication import Replication
from appendhall.tape import Tape

_IDLE = "idle"
_ASKING = "asking"
_SYNCING = "syncing"
_LEADING = "leading"

# The first word of the entries of a tape.
_EPOCH = "epoch"


class Manager:
    """A manager on its disk, idle at first."""

    def __init__(self, number, disk, *, managers, journals):
        self.number = number
        self.managers = managers
        self.journals = journals
        self._tape = Tape(disk)
        self.epoch = max([entry[1] for entry in self._tape.entries()], default=0)
        self.seen = self.epoch
        self._forget()

    @property
    def log(self):
        """The log of the epoch if the manager syncs or leads, otherwise None."""
        if self._replication is None:
            return None
        return self._replication.log

    @property
    def commit(self):
        """The commit number if the manager leads, otherwise 0."""
        if self._space is None:
            return 0
        # Just the records that are committed are applied.
        return self._space.applied

    def campaign(self):
        """Begin an epoch of its own and ask the journals for their promises."""
        epoch = next_epoch(self.seen, self.number, self.managers)
        self._tape.append((_EPOCH, epoch))
        self._tape.sync()
        self._forget()
        self.epoch = epoch
        self.seen = epoch
        self.role = _ASKING
        self._election = Election(self.journals)
        return self._to_all(("promise", epoch))

    def handle(self, sender, body):
        """Handle the body of a message and return the messages that follow."""
        kind, number = sender
        word = body[0]
        if kind == CLIENT:
            return self._serve(number, body)
        if word == "refused":
            return self._see(body[2])
        # What belongs to another epoch tells nothing about this one.
        if body[1] != self.epoch:
            return []
        if word == "promised":
            return self._take_promise(number, body[2], body[3])
        if word == "synced":
            return self._take_length(number, body[2])
        return self._take_pong(number, body[2])

    def checkpoint(self):
        """Cut the log at the commit number."""
        if self.role != _LEADING or self.commit <= self.log.base:
            return []
        return self._to_all(self._replication.cut(self.commit, self._space.to_image()))

    def resend(self):
        """Send to each journal what it is missing."""
        pairs = []
        for journal in range(self.journals):
            body = self._missing(journal)
            if body is not None:
                pairs.append(((JOURNAL, journal), body))
        if self.role == _LEADING:
            for token, journal in self._reads.unanswered():
                pairs.append(((JOURNAL, journal), self._ping(token)))
        return pairs

    def _forget(self):
        """Drop what is in memory alone."""
        self.role = _IDLE
        # While the manager asks.
        self._election = None
        # While it syncs or leads.
        self._replication = None
        # While it leads.
        self._space = None
        self._reads = None

    def _see(self, promise):
        self.seen = max(self.seen, promise)
        if promise > self.epoch:
            self._forget()
        return []

    def _take_promise(self, journal, log_epoch, log_value):
        if self.role != _ASKING:
            return []
        self._election.note(journal, log_epoch, Log.from_value(log_value))
        if not self._election.decided():
            return []
        log = self._election.choice()
        self._election = None
        self._replication = Replication(self.epoch, log, self.journals)
        self.role = _SYNCING
        return self._to_all(self._replication.sync_body())

    def _take_length(self, journal, length):
        if self.role != _SYNCING and self.role != _LEADING:
            return []
        self._replication.note(journal, length)
        if self.role == _LEADING:
            return self._commit_more()
        if self._replication.synced():
            self._lead()
        return []

    def _lead(self):
        self.role = _LEADING
        self._space = replay(self.log)
        self._reads = Reads(self.journals)

    def _commit_more(self):
        """Apply the records that are newly committed and return their answers."""
        count = self._replication.commit_point() - self.commit
        if count <= 0:
            return []
        pairs = []
        for record in self.log.after(self.commit)[:count]:
            answer = self._space.apply(record)
            pairs.append(_answer_pair(record[0], record[1], answer))
        return pairs

    def _take_pong(self, journal, token):
        if self.role != _LEADING:
            return []
        closed = self._reads.note(token, journal)
        if closed is None:
            return []
        client, rid, query = closed
        return [((CLIENT, client), ("value", rid, self.commit, self._space.query(query)))]

    def _serve(self, client, body):
        """Do what a client asks for."""
        if self.role != _LEADING:
            return []
        word, number, wish = body
        if word == "request":
            return self._take_request(client, number, wish)
        return self._to_all(self._ping(self._reads.ask(client, number, wish)))

    def _take_request(self, client, serial, deed):
        last = tail_serial(self.log, self._space, client)
        if serial == last + 1:
            return self._to_all(self._replication.put((client, serial, deed)))
        if serial == last and serial == self._space.last_serial(client):
            return [_answer_pair(client, serial, self._space.last_answer(client))]
        return []

    def _missing(self, journal):
        """Return the body that a journal is missing, or None."""
        if self.role == _IDLE:
            return None
        if self.role != _ASKING:
            return self._replication.missing(journal)
        if self._election.promised(journal):
            return None
        return ("promise", self.epoch)

    def _ping(self, token):
        return ("ping", self.epoch, token)

    def _to_all(self, body):
        return [((JOURNAL, journal), body) for journal in range(self.journals)]


def _answer_pair(client, serial, answer):
    return ((CLIENT, client), ("answer", serial, answer))

"""The hall: all machines, the network between them, and the book of what the clients were told."""

from appendhall.book import Book
from appendhall.errors import BadValue, Busy, PowerLoss
from appendhall.fleet import Fleet
from appendhall.kinds import CLIENT, JOURNAL, MANAGER
from appendhall.network import Network
from appendhall.records import is_deed
from appendhall.values import is_integer

_JOURNALS_MOST = 7
_MANAGERS_MOST = 4
_CLIENTS_MOST = 4


class Hall:
    """A hall in which all machines are up at first, on empty disks."""

    def __init__(self, *, journals=3, managers=2, clients=2):
        _check_count(journals, _JOURNALS_MOST)
        _check_count(managers, _MANAGERS_MOST)
        _check_count(clients, _CLIENTS_MOST)
        self.counts = {JOURNAL: journals, MANAGER: managers, CLIENT: clients}
        self.book = Book()
        self.network = Network()
        self._fleet = Fleet(journals=journals, managers=managers, clients=clients)

    def machines(self):
        """Return all machines, the destroyed ones too."""
        return self._fleet.machines()

    def intact(self):
        """Return the numbers of the journals that are not destroyed."""
        return self._fleet.intact()

    def is_up(self, machine):
        """Tell whether a machine is up."""
        return self._fleet.is_up(machine)

    def running(self, machine):
        """Return the object of a machine that is up."""
        return self._fleet.running(machine)

    def disk(self, machine):
        """Return a copy of the disk of a machine."""
        return self._fleet.disk(machine).clone()

    def ask(self, client, deed):
        """Let a client take up a request."""
        machine = (CLIENT, client)
        running = self._fleet.running(machine)
        if not is_deed(deed):
            raise BadValue("what is asked is not a deed")
        if running.deed is not None:
            raise Busy("the last request is not answered yet")
        # The event stands in the book also if the disk loses power.
        self.book.note(("asked", client, running.serial + 1, deed))
        try:
            running.ask(deed)
        except PowerLoss:
            return self._lost(machine)
        return []

    def look(self, client, query):
        """Let a client take up a read."""
        machine = (CLIENT, client)
        running = self._fleet.running(machine)
        if not is_deed(query):
            raise BadValue("the query does not have the form of a deed")
        self.book.note(("looked", client, running.rid + 1, query))
        try:
            running.look(query)
        except PowerLoss:
            return self._lost(machine)
        return []

    def send(self, client, manager):
        """Let a client send its open request and its open read to a manager."""
        machine = (CLIENT, client)
        receiver = (MANAGER, manager)
        self._fleet.check_known(receiver)
        running = self._fleet.running(machine)
        bodies = [body for body in (running.request(), running.read()) if body is not None]
        return self._sent(machine, [(receiver, body) for body in bodies])

    def campaign(self, manager):
        """Let a manager begin an epoch."""
        machine = (MANAGER, manager)
        running = self._fleet.running(machine)
        try:
            pairs = running.campaign()
        except PowerLoss:
            return self._lost(machine)
        return self._sent(machine, pairs)

    def resend(self, manager):
        """Let a manager send what the journals are missing."""
        machine = (MANAGER, manager)
        return self._sent(machine, self._fleet.running(machine).resend())

    def checkpoint(self, manager):
        """Let a manager cut its log."""
        machine = (MANAGER, manager)
        return self._sent(machine, self._fleet.running(machine).checkpoint())

    def deliver(self, number):
        """Let the receiver of a message handle it."""
        message = self.network.message(number)
        receiver = message[1]
        running = self._fleet.running(receiver)
        try:
            pairs = self._handled(running, message)
        except PowerLoss:
            return self._lost(receiver)
        return self._sent(receiver, pairs)

    def drop(self, number):
        """Take a message out of the network."""
        self.network.drop(number)
        return []

    def stop(self, machine):
        """Let a machine lose its object."""
        self._fleet.stop(machine)
        return []

    def start(self, machine):
        """Give a machine that is down a new object."""
        self._fleet.start(machine)
        return []

    def arm(self, machine, fates, *, after=0):
        """Arm the disk of a machine."""
        self._fleet.disk(machine).arm(fates, after=after)
        return []

    def disarm(self, machine):
        """Disarm the disk of a machine."""
        self._fleet.disk(machine).disarm()
        return []

    def destroy(self, journal):
        """Destroy a journal and its disk for good."""
        self._fleet.destroy(journal)
        return []

    def _handled(self, running, message):
        """Let a machine handle a message and return what it sends."""
        sender, receiver, body = message
        kind, number = receiver
        if kind == JOURNAL:
            return [(sender, running.handle(body))]
        if kind == MANAGER:
            return running.handle(sender, body)
        told = running.handle(body)
        if told is not None:
            self.book.note((told[0], number) + told[1:])
        return []

    def _sent(self, sender, pairs):
        """Send bodies to their receivers and return the numbers of the messages."""
        return [self.network.send((sender, receiver, body)) for receiver, body in pairs]

    def _lost(self, machine):
        """Take a machine down whose disk has lost power; nothing is sent then."""
        self._fleet.stop(machine)
        return []


def _check_count(count, most):
    if not is_integer(count) or not 1 <= count <= most:
        raise BadValue("a hall cannot have so many machines of a kind")

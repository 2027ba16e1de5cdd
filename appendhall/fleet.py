"""All machines of a hall, each on its disk."""

from appendhall.client import Client
from appendhall.disk import Disk
from appendhall.errors import Destroyed, MachineDown, PowerLoss, TooFew, Unknown
from appendhall.journal import Journal
from appendhall.kinds import CLIENT, JOURNAL, MANAGER
from appendhall.manager import Manager
from appendhall.quorum import majority


class Fleet:
    """So many machines, which are all up at first."""

    def __init__(self, *, journals, managers, clients):
        self._journals = journals
        self._managers = managers
        self._machines = _named(JOURNAL, journals) + _named(MANAGER, managers) + _named(CLIENT, clients)
        # The disks of the machines that are not destroyed.
        self._disks = {machine: Disk() for machine in self._machines}
        # The objects of the machines that are up.
        self._objects = {machine: self._made(machine) for machine in self._machines}

    def machines(self):
        """Return all machines, the destroyed ones too."""
        return list(self._machines)

    def intact(self):
        """Return the numbers of the journals that are not destroyed."""
        return [journal for journal in range(self._journals) if (JOURNAL, journal) in self._disks]

    def is_up(self, machine):
        """Tell whether a machine is up."""
        self.check_known(machine)
        return machine in self._objects

    def disk(self, machine):
        """Return the disk of a machine, the one that the machine itself has."""
        self.check_known(machine)
        if machine not in self._disks:
            raise Destroyed("the machine is destroyed")
        return self._disks[machine]

    def running(self, machine):
        """Return the object of a machine that is up."""
        self.disk(machine)
        if machine not in self._objects:
            raise MachineDown("the machine is down")
        return self._objects[machine]

    def stop(self, machine):
        """Take the object of a machine away, if it has one."""
        self.disk(machine)
        self._objects.pop(machine, None)

    def start(self, machine):
        """Make an object on the disk of a machine, if it has none."""
        self.disk(machine)
        if machine in self._objects:
            return
        try:
            self._objects[machine] = self._made(machine)
        except PowerLoss:
            # The disk lost power while it was mended: the machine stays down.
            return

    def destroy(self, journal):
        """Take a journal and its disk away for good."""
        machine = (JOURNAL, journal)
        self.disk(machine)
        if len(self.intact()) - 1 < majority(self._journals):
            raise TooFew("a majority of the journals must stay intact")
        self.stop(machine)
        del self._disks[machine]

    def check_known(self, machine):
        """Raise Unknown if there is no such machine."""
        if machine not in self._machines:
            raise Unknown("there is no such machine")

    def _made(self, machine):
        kind, number = machine
        disk = self._disks[machine]
        if kind == JOURNAL:
            return Journal(number, disk)
        if kind == MANAGER:
            return Manager(number, disk, managers=self._managers, journals=self._journals)
        return Client(number, disk)


def _named(kind, count):
    return [(kind, number) for number in range(count)]

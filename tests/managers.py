"""Managers in each of their roles, and what several tests say to them."""

from appendhall.disk import Disk
from appendhall.manager import Manager
from appendhall.space import Space
from tests.test_space import filled

NEW = Space().to_image()
ROLES = ("idle", "asking", "syncing", "leading")


def log_of(records, base=0):
    """The value of the log that these records give when the first ones are behind its base."""
    return (base, filled(records[:base]).to_image(), tuple(records[base:]))


def from_journal(manager, number, *body):
    return manager.handle(("journal", number), body)


def from_client(manager, number, *body):
    return manager.handle(("client", number), body)


def to_all(journals, body):
    return [(("journal", number), body) for number in range(journals)]


def needed(journals):
    return journals // 2 + 1


def in_role(role, records=(), base=0, *, number=0, managers=2, journals=3, disk=None, campaigns=1):
    """A manager in a role, whose log is that of these records; just a majority of the journals has told it something."""
    manager = Manager(number, disk or Disk(), managers=managers, journals=journals)
    if role == "idle":
        return manager
    for _ in range(campaigns):
        manager.campaign()
    if role == "asking":
        return manager
    for journal in range(needed(journals)):
        from_journal(manager, journal, "promised", manager.epoch, 0, log_of(records, base))
    if role == "leading":
        for journal in range(needed(journals)):
            from_journal(manager, journal, "synced", manager.epoch, len(records))
    return manager


def state(manager):
    """What can be seen of a manager without telling it something."""
    value = None if manager.log is None else manager.log.value()
    return manager.role, manager.epoch, manager.seen, value, manager.commit, manager.resend()


def commit_all(manager):
    """Let a majority of the journals tell the whole length of the log, and return the answers."""
    pairs = []
    for journal in range(needed(manager.journals)):
        pairs += from_journal(manager, journal, "synced", manager.epoch, manager.log.length)
    return pairs

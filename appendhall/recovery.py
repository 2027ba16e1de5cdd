"""Recovery: the log that the disks of the journals give."""

from appendhall.errors import TooFew
from appendhall.journal import Journal
from appendhall.quorum import best, majority


def recover(disks, *, journals):
    """Return the best log that the disks of different journals give."""
    if len(disks) < majority(journals):
        raise TooFew("these are fewer disks than a majority of the journals has")
    found = [_stored_journal(number, disk) for number, disk in enumerate(disks)]
    candidates = [(journal.number, journal.epoch, journal.log.length) for journal in found]
    return found[best(candidates)].log


def _stored_journal(number, disk):
    """Return the journal that a disk gives without what is pending on it."""
    # A journal may mend its disk, so it gets a disk of its own.
    own = disk.clone()
    own.lose_power(0)
    return Journal(number, own)

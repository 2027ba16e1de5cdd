"""A disk: a row of blocks, with writes that are pending until a sync."""

from appendhall.errors import BadBlock, BadValue, PowerLoss
from appendhall.values import is_number, is_plain

_BLOCK_MOST = 12
_BLANK = ()

# The fates of a pending write; 0 is the fate of a write that is lost.
_STORED = 1
_TORN = 2


class Disk:
    """A disk, of which all blocks are blank at first."""

    def __init__(self):
        # The stored blocks that are not blank; None stands for a torn block.
        self._stored = {}
        self._pending = []
        # The latest pending write of each block, so that reading is no search.
        self._latest = {}
        self._fates = None
        self._after = 0

    def write(self, at, block):
        """Add a pending write of a block."""
        _check_index(at)
        if not _is_block(block):
            raise BadBlock("what is written is not a block")
        self._pending.append((at, block))
        self._latest[at] = block

    def read(self, at):
        """Return a block as the machine sees it, or None if it is torn."""
        _check_index(at)
        if at in self._latest:
            return self._latest[at]
        return self._stored.get(at, _BLANK)

    def sync(self):
        """Store the pending writes, or lose power if the disk is armed for it."""
        if self.armed and self._after == 0:
            self.lose_power(self._fates)
            raise PowerLoss("the disk lost power in a sync")
        if self.armed:
            self._after -= 1
        for at, block in self._pending:
            self._store(at, block)
        self._forget_pending()

    def lose_power(self, fates):
        """Give each pending write its fate, by the digits of fates in base 3."""
        _check_count(fates)
        rest = fates
        for at, block in self._pending:
            fate = rest % 3
            rest = rest // 3
            if fate == _STORED:
                self._store(at, block)
            elif fate == _TORN:
                self._store(at, None)
        self._forget_pending()
        self.disarm()

    def arm(self, fates, *, after=0):
        """Let the sync behind the next `after` syncs lose power."""
        _check_count(fates)
        _check_count(after)
        self._fates = fates
        self._after = after

    def disarm(self):
        """Let no sync lose power any more."""
        self._fates = None

    @property
    def pending(self):
        """How many writes are pending."""
        return len(self._pending)

    @property
    def armed(self):
        """Whether the disk is armed."""
        return self._fates is not None

    @property
    def extent(self):
        """One above the greatest index of a block that is not seen as blank."""
        written = [at for at in self._latest if self._latest[at] != _BLANK]
        stored = [at for at in self._stored if at not in self._latest]
        return max(written + stored, default=-1) + 1

    def stored(self):
        """Return the pairs of index and block of what is stored and not blank."""
        return [(at, self._stored[at]) for at in sorted(self._stored)]

    def clone(self):
        """Return another disk in the same state."""
        other = Disk()
        other._stored = dict(self._stored)
        other._pending = list(self._pending)
        other._latest = dict(self._latest)
        other._fates = self._fates
        other._after = self._after
        return other

    def _store(self, at, block):
        if block == _BLANK:
            self._stored.pop(at, None)
        else:
            self._stored[at] = block

    def _forget_pending(self):
        self._pending = []
        self._latest = {}


def _is_block(thing):
    if not isinstance(thing, tuple) or len(thing) > _BLOCK_MOST:
        return False
    return all([is_plain(item) for item in thing])


def _check_index(at):
    if not is_number(at):
        raise BadBlock("the index of a block is not a number")


def _check_count(thing):
    if not isinstance(thing, int) or isinstance(thing, bool) or thing < 0:
        raise BadValue("this is not an int from 0 on")

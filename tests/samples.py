"""Things that several tests pass to the program."""

from appendhall.disk import Disk
from appendhall.errors import PowerLoss

MOST = 10 ** 18
FAR = 10 ** 5000

# No integers, texts or values, of whatever kind.
ODD_THINGS = [
    None, True, False, [], [3], {}, {"a": 1}, set(), frozenset(), 1.0, float("inf"), float("nan"),
    1j, b"", b"a", bytearray(b"a"), range(2), object(), len, int, NotImplemented, ..., iter([1]),
]

INTEGERS = [0, 1, -1, 7, MOST, -MOST, MOST - 1, 1 - MOST]
BEYOND = [MOST + 1, -MOST - 1, 2 * MOST, -2 * MOST, 2 ** 64, FAR, -FAR]

ALLOWED_CHARS = [chr(code) for code in range(32, 127) if code != 37]
TEXTS = ["", " ", "~", "a", "two words", "x" * 199, "x" * 200, "~" * 200, " " * 200, "".join(ALLOWED_CHARS)]
NO_TEXTS = [
    "\x25", "a\x25", "\x25a", "a\nb", "\n", "\t", "a\t", "x" * 201, "x" * 100000, "x" * 200 + "\n", "\x25" * 200,
]


class Touchy:
    """An object that cannot be compared, hashed, measured or shown."""

    __hash__ = None

    def __eq__(self, other):
        raise AssertionError("compared")

    def __bool__(self):
        raise AssertionError("tested")

    def __len__(self):
        raise AssertionError("measured")

    def __repr__(self):
        raise AssertionError("shown")


class Agreeable:
    """An object that says that it equals everything."""

    __hash__ = None

    def __eq__(self, other):
        return True

    def __ne__(self, other):
        return False


class SpyDisk(Disk):
    """A disk that keeps what is done to it."""

    def __init__(self):
        super().__init__()
        self.done = []

    def write(self, at, block):
        super().write(at, block)
        self.done.append((at, block))

    def sync(self):
        self.done.append("sync")
        super().sync()


def odd_things():
    return ODD_THINGS + [Touchy(), Agreeable()]


def nested(levels, core=5):
    """Put a thing into so many tuples."""
    thing = core
    for _ in range(levels):
        thing = (thing,)
    return thing


def doubled(levels, core=5, width=2):
    """A tuple whose items are one object, on each level: small, but vast if it is written out."""
    thing = core
    for _ in range(levels):
        thing = (thing,) * width
    return thing


VALUES = INTEGERS + TEXTS + [
    (), (0,), ("",), ((),), ((), ()), (1, ("a", ())), (7, ("a",)), ("a", (), (3, "b")), ("i", "s", "t"),
    ("t", 2, "i", 7), tuple(range(100)), nested(11), nested(12), nested(11, ()), nested(11, (1, "a", ())[:2]),
    doubled(6, "x"), ((1, 2), (3, (4,)), "five", -6), ("head", 1, 2),
]


def disk_state(disk):
    """All that can be seen of a disk, what would be stored by a power loss included."""
    seen = {at: disk.read(at) for at, _ in disk.stored()}
    for at in range(0, 40):
        seen[at] = disk.read(at)
    outcomes = []
    for fates in (0, (3 ** disk.pending - 1) // 2, 3 ** disk.pending - 1):
        other = disk.clone()
        other.lose_power(fates)
        outcomes.append(other.stored())
    return disk.stored(), disk.pending, disk.armed, disk.extent, seen, outcomes, syncs_until_loss(disk)


def syncs_until_loss(disk):
    """How many syncs of an armed disk store (up to 20), and what is stored after the power loss."""
    other = disk.clone()
    for count in range(20):
        try:
            other.sync()
        except PowerLoss:
            return count, other.stored()
    return None


def fates_of(digits):
    """The integer whose digits in base 3 are these, the lowest one first."""
    return sum(digit * 3 ** at for at, digit in enumerate(digits))

"""A log: records with consecutive numbers behind an image."""

from appendhall.errors import BadValue, OutOfRange
from appendhall.records import is_record
from appendhall.values import is_number, is_value


class Log:
    """A log, which does not change: its methods return new logs."""

    def __init__(self, base, image, records):
        self.base = base
        self.image = image
        self.records = records

    @property
    def length(self):
        """The number of the last record, or the base if there is none."""
        return self.base + len(self.records)

    def __len__(self):
        return len(self.records)

    def __iter__(self):
        return iter(self.records)

    def record(self, number):
        """Return the record with this number."""
        if not self.base < number <= self.length:
            raise OutOfRange("the log does not hold this number")
        return self.records[number - self.base - 1]

    def after(self, number):
        """Return the records above a number."""
        if not self.base <= number <= self.length:
            raise OutOfRange("the number is below the base or above the length")
        return self.records[number - self.base:]

    def with_record(self, record):
        """Return a log with one record more."""
        return Log(self.base, self.image, self.records + (record,))

    def joined(self, first, records):
        """Return a log with those of the records that it does not have yet."""
        if not 1 <= first <= self.length + 1:
            raise OutOfRange("the records do not follow those of the log")
        known = self.length + 1 - first
        return Log(self.base, self.image, self.records + records[known:])

    def cut(self, number, image):
        """Return the log with another base, for which the image stands."""
        if number < self.base:
            raise OutOfRange("the number is below the base")
        return Log(number, image, self.records[number - self.base:])

    def agrees(self, other):
        """Tell whether both logs have the same where both have something."""
        if self.base == other.base and self.image != other.image:
            return False
        low = max(self.base, other.base)
        high = min(self.length, other.length)
        return self._between(low, high) == other._between(low, high)

    def value(self):
        """Return the log as a value."""
        return (self.base, self.image, self.records)

    @staticmethod
    def from_value(value):
        """Return the log of such a value."""
        if not isinstance(value, tuple) or len(value) != 3:
            raise BadValue("a log is a tuple of three items")
        base, image, records = value
        if not is_number(base) or not is_value(image) or not _are_records(records):
            raise BadValue("an item of the tuple is not what a log has there")
        return Log(base, image, records)

    def _between(self, low, high):
        """Return the records above low and up to high, none if high is not above low."""
        if high <= low:
            return ()
        return self.records[low - self.base:high - self.base]


def _are_records(things):
    return isinstance(things, tuple) and all([is_record(thing) for thing in things])

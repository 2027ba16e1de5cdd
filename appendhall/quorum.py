"""Majorities of journals, and what follows from them."""

from appendhall.errors import TooFew


def majority(count):
    """Return how many of so many journals are a majority."""
    return count // 2 + 1


def has_majority(members, count):
    """Tell whether the numbers of at least a majority of the journals occur in a list."""
    return len({member for member in members if 0 <= member < count}) >= majority(count)


def commit_point(matched, count):
    """Return the greatest length that at least a majority of the journals has reached."""
    lengths = [matched[journal] for journal in matched if 0 <= journal < count]
    needed = majority(count)
    if len(lengths) < needed:
        return 0
    return sorted(lengths, reverse=True)[needed - 1]


def best(candidates):
    """Return the journal of the best candidate."""
    if not candidates:
        raise TooFew("there is no candidate")
    return max(candidates, key=lambda row: (row[1], row[2], -row[0]))[0]

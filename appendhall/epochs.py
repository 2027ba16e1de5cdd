"""Epochs, and the managers to which they belong."""


def owner(epoch, managers):
    """Return the number of the manager to which an epoch belongs."""
    return epoch % managers


def next_epoch(seen, number, managers):
    """Return the least epoch above a number that belongs to a manager."""
    least = seen + 1
    return least + (number - least) % managers

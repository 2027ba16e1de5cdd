"""What the records of a log lead to."""

from appendhall.space import Space


def replay(log):
    """Return the space to which a log leads."""
    space = Space.from_image(log.image)
    for record in log.records:
        space.apply(record)
    return space


def tail_serial(log, space, client):
    """Return the last serial of a client in a log, of which the space has applied only the first records."""
    serials = [record[1] for record in log.after(space.applied) if record[0] == client]
    if serials:
        return serials[-1]
    return space.last_serial(client)

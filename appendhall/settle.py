"""Settling: bringing a hall to the point where all that was open is answered."""

from appendhall.kinds import CLIENT, JOURNAL, MANAGER

# The number of the manager that is to lead.
_LEADER = 0


def settle(hall):
    """Settle a hall and return how many messages were delivered."""
    _bring_up(hall)
    for number in hall.network.numbers():
        hall.drop(number)
    delivered = _campaign(hall)
    # The refusals of the first campaign tell which epoch the second one must exceed.
    if hall.running((MANAGER, _LEADER)).role != "leading":
        delivered += _campaign(hall)
    for client in range(hall.counts[CLIENT]):
        hall.send(client, _LEADER)
        delivered += _deliver_all(hall)
    return delivered


def _bring_up(hall):
    """Disarm and start each machine that is not destroyed."""
    for machine in hall.machines():
        if not _is_destroyed(hall, machine):
            hall.disarm(machine)
            hall.start(machine)


def _campaign(hall):
    hall.campaign(_LEADER)
    return _deliver_all(hall)


def _deliver_all(hall):
    """Deliver and drop the message with the least number until there is none left."""
    delivered = 0
    while len(hall.network) > 0:
        number = min(hall.network.numbers())
        receiver = hall.network.message(number)[1]
        if not _is_destroyed(hall, receiver):
            hall.deliver(number)
            delivered += 1
        hall.drop(number)
    return delivered


def _is_destroyed(hall, machine):
    kind, number = machine
    return kind == JOURNAL and number not in hall.intact()

"""Scenarios: lists of deeds that are done in a hall."""

from appendhall.errors import BadValue, Busy, Destroyed, MachineDown, TooFew, Unknown


def run(hall, deeds):
    """Do deeds in order and return the list of their outcomes."""
    return [perform(hall, deed) for deed in deeds]


def perform(hall, deed):
    """Do a deed and return its outcome."""
    try:
        return ("done", _do(hall, deed))
    except Unknown:
        return ("refused", "Unknown")
    except Destroyed:
        return ("refused", "Destroyed")
    except MachineDown:
        return ("refused", "MachineDown")
    except BadValue:
        return ("refused", "BadValue")
    except Busy:
        return ("refused", "Busy")
    except TooFew:
        return ("refused", "TooFew")


def _do(hall, deed):
    # What the deed begins with may be any object: only a string may be compared with the names.
    if not deed or not isinstance(deed[0], str):
        raise BadValue("the deed does not begin with a name")
    match deed:
        case ("ask", client, wish):
            return hall.ask(client, wish)
        case ("look", client, query):
            return hall.look(client, query)
        case ("send", client, manager):
            return hall.send(client, manager)
        case ("campaign", manager):
            return hall.campaign(manager)
        case ("resend", manager):
            return hall.resend(manager)
        case ("checkpoint", manager):
            return hall.checkpoint(manager)
        case ("deliver", number):
            return hall.deliver(number)
        case ("drop", number):
            return hall.drop(number)
        case ("stop", machine):
            return hall.stop(machine)
        case ("start", machine):
            return hall.start(machine)
        case ("arm", machine, fates, after):
            return hall.arm(machine, fates, after=after)
        case ("disarm", machine):
            return hall.disarm(machine)
        case ("destroy", journal):
            return hall.destroy(journal)
    raise BadValue("the deed has none of the forms")

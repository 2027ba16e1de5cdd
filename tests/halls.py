"""Halls, what can be seen of them, and long rows of deeds that are drawn for them."""

from appendhall.hall import Hall
from appendhall.scenario import run
from tests.managers import state as manager_state
from tests.samples import syncs_until_loss

PATHS = ["/a", "/b", "/d/a", "/d/b", "/d", "/", "/x"]


def prepared(deeds, **counts):
    """A hall in which these deeds were done."""
    hall = Hall(**counts)
    for outcome in run(hall, deeds):
        assert outcome[0] == "done", outcome
    return hall


def deliver_all(hall):
    """Deliver and drop messages until none is left; return how many there were."""
    count = 0
    while hall.network.numbers():
        number = hall.network.numbers()[0]
        hall.deliver(number)
        hall.drop(number)
        count += 1
    return count


def led(records=(), *, journals=3, managers=2, clients=2):
    """A hall without messages in which manager 0 leads, and in which client 0 has done some deeds."""
    hall = Hall(journals=journals, managers=managers, clients=clients)
    hall.campaign(0)
    deliver_all(hall)
    for deed in records:
        hall.ask(0, deed)
        hall.send(0, 0)
        deliver_all(hall)
    return hall


def object_state(kind, thing):
    if kind == "journal":
        return thing.number, thing.promise, thing.epoch, thing.log.value()
    if kind == "manager":
        return (thing.number,) + manager_state(thing)
    return thing.number, thing.serial, thing.deed, thing.rid, thing.request(), thing.read()


def machine_state(hall, machine):
    kind, number = machine
    if kind == "journal" and number not in hall.intact():
        return ("destroyed", hall.is_up(machine))
    disk = hall.disk(machine)
    own = object_state(kind, hall.running(machine)) if hall.is_up(machine) else "down"
    return own, disk.stored(), disk.pending, disk.armed, syncs_until_loss(disk)


def hall_state(hall, without=()):
    """All that can be seen of a hall."""
    messages = [(number, hall.network.message(number)) for number in hall.network]
    machines = {machine: machine_state(hall, machine) for machine in hall.machines() if machine not in without}
    return hall.counts, hall.intact(), hall.book.events(), hall.network.sent, messages, machines


def machines_of(counts):
    return [(kind, number) for kind in ("journal", "manager", "client") for number in range(counts[kind])]


def drawn_deed(draws, step):
    word = draws.weighted({"append": 60, "create": 15, "mkdir": 5, "snapshot": 4, "move": 5, "seal": 2, "limit": 2, "fly": 1})
    path = draws.choice(PATHS[:4]) if draws.chance(90) else draws.choice(PATHS)
    if word == "append":
        return (word, path, f"text {step}")
    if word in ("snapshot", "move"):
        return (word, path, draws.choice(PATHS))
    if word == "limit":
        return (word, draws.choice(("/d", "/")), draws.randrange(500, 2000))
    return (word, "/d" if word == "mkdir" else path)


def drawn_query(draws):
    return draws.choice([("content", draws.randrange(1, 8)), ("content", 1), ("find", draws.choice(PATHS)), ("names", "/d")])


class DrawnDeeds:
    """Deeds of a scenario for a hall, one after the other; most are possible, and something goes on."""

    def __init__(self, draws, hall):
        self.draws = draws
        self.hall = hall
        self.delivered = {}

    def next(self, step):
        word = self.draws.weighted({
            "deliver": 300, "drop": 10, "ask": 40, "look": 12, "send": 40, "campaign": 40 if self.is_idle() else 2,
            "resend": 8, "checkpoint": 5, "stop": 2, "start": 25, "arm": 5, "disarm": 3, "destroy": 1,
        })
        return (word,) + getattr(self, "items_of_" + word, self.number_of_manager)(step)

    def is_idle(self):
        managers = [machine for machine in machines_of(self.hall.counts) if machine[0] == "manager"]
        return not any(self.hall.is_up(machine) and self.hall.running(machine).role != "idle" for machine in managers)

    def machine(self):
        return self.draws.choice(machines_of(self.hall.counts))

    def client(self):
        return self.draws.randrange(self.hall.counts["client"])

    def number_of_manager(self, step):
        return (self.draws.randrange(self.hall.counts["manager"]),)

    def leader(self):
        """Mostly a manager that leads, if there is one."""
        leading = [number for number in range(self.hall.counts["manager"]) if self.hall.is_up(("manager", number))
                   and self.hall.running(("manager", number)).role == "leading"]
        if leading and self.draws.chance(70):
            return self.draws.choice(leading)
        return self.draws.randrange(self.hall.counts["manager"])

    def items_of_ask(self, step):
        return (self.client(), drawn_deed(self.draws, step))

    def items_of_look(self, step):
        return (self.client(), drawn_query(self.draws))

    def items_of_send(self, step):
        return (self.client(), self.leader())

    def items_of_checkpoint(self, step):
        return (self.leader(),)

    def items_of_deliver(self, step):
        """Mostly one of the oldest messages that were not delivered yet; at times a late or a repeated one."""
        numbers = self.hall.network.numbers()
        fresh = [number for number in numbers if number not in self.delivered]
        if fresh and self.draws.chance(85):
            number = self.draws.choice(fresh[:6] if self.draws.chance(70) else fresh)
        else:
            number = self.draws.choice(numbers or [0])
        self.delivered[number] = True
        return (number,)

    def items_of_drop(self, step):
        return (self.draws.choice(self.hall.network.numbers() or [0]),)

    def items_of_stop(self, step):
        return (self.machine(),)

    def items_of_start(self, step):
        down = [machine for machine in self.hall.machines() if not self.hall.is_up(machine)]
        return (self.draws.choice(down) if down else self.machine(),)

    def items_of_arm(self, step):
        return (self.machine(), self.draws.randrange(3 ** 7), self.draws.randrange(4))

    def items_of_disarm(self, step):
        return (self.machine(),)

    def items_of_destroy(self, step):
        return (self.draws.randrange(self.hall.counts["journal"]),)

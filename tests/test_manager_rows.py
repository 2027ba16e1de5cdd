"""Long rows of what a manager is told, compared with a second account of part 6."""

import unittest

from appendhall.disk import Disk
from appendhall.manager import Manager
from appendhall.tape import Tape
from tests.draws import Draws
from tests.model_manager import ModelManager
from tests.test_space import filled

DEEDS = [
    ("create", "/a"), ("append", "/a", "one"), ("append", "/a", "more"), ("mkdir", "/d"), ("append", "/d/b", "x"),
    ("create", "/d/b"), ("move", "/a", "/d/c"), ("seal", "/a"), ("snapshot", "/a", "/copy"), ("limit", "/", 40), ("fly",),
]
QUERIES = [("content", 1), ("content", 2), ("find", "/"), ("names", "/d"), ("find", "/a"), ("fly",)]

WEIGHTS = {
    "promised": 5, "synced": 5, "ponged": 5, "refused": 2, "request": 5, "read": 5, "checkpoint": 3, "resend": 2,
    "campaign": 1, "restart": 1,
}


class Row:
    """A manager and its second account, which are told the same."""

    def __init__(self, seed):
        self.draws = Draws(seed)
        self.managers = self.draws.randrange(1, 4)
        self.journals = self.draws.randrange(1, 6)
        self.number = self.draws.randrange(self.managers)
        self.pasts = {}
        self.image_of([])
        self.disk = Disk()
        self.manager = self.made()
        self.model = ModelManager(self.number, self.managers, self.journals, self.pasts, self.image_of)

    def made(self):
        return Manager(self.number, self.disk, managers=self.managers, journals=self.journals)

    def image_of(self, records):
        image = filled(records).to_image()
        self.pasts[image] = list(records)
        return image

    def near_epoch(self):
        return max(0, self.model.epoch + self.draws.choice((0,) * 14 + (-2, -1, 1, 2)))

    def drawn_log(self):
        """A log of its own, or a longer or shorter form of the one that there was."""
        records = list(self.model.past + self.model.tail) if self.draws.chance(70) else []
        records = records[:self.draws.randrange(len(records) // 2, len(records) + 1)]
        for _ in range(self.draws.randrange(4)):
            records.append((self.draws.randrange(3), self.draws.randrange(1, 5), self.draws.choice(DEEDS)))
        base = self.draws.randrange(len(records) + 1)
        return (base, self.image_of(records[:base]), tuple(records[base:]))

    def promised(self):
        return ("promised", self.near_epoch(), self.draws.randrange(4), self.drawn_log())

    def synced(self):
        length = self.model.length - self.draws.choice((0, 0, 0, 1, 2, 5))
        return ("synced", self.near_epoch(), max(0, length))

    def ponged(self):
        return ("ponged", self.near_epoch(), max(0, self.model.tokens - self.draws.randrange(4) + 1))

    def refused(self):
        return ("refused", self.near_epoch(), max(0, self.model.epoch + self.draws.randrange(-3, 4)))

    def request(self, client):
        known = [serial for other, serial, _ in self.model.past + self.model.tail if other == client]
        serial = max(known, default=0) + self.draws.choice((1, 1, 1, 0, 0, -1, 2))
        return ("request", max(1, serial), self.draws.choice(DEEDS))

    def step(self):
        weights = dict(WEIGHTS)
        # What takes effect in the role is drawn more often.
        weights[{"idle": "campaign", "asking": "promised", "syncing": "synced", "leading": "synced"}[self.model.role]] += 60
        if self.model.role == "leading":
            weights.update(ponged=50, request=60, read=20)
        word = self.draws.weighted(weights)
        if word == "restart":
            self.manager = self.made()
            return [], self.model.restart() or []
        if word in ("checkpoint", "resend", "campaign"):
            return getattr(self.manager, word)(), getattr(self.model, word)()
        client = self.draws.randrange(3)
        sender = ("client", client)
        if word == "request":
            body = self.request(client)
        elif word == "read":
            body = ("read", self.draws.randrange(1, 4), self.draws.choice(QUERIES))
        else:
            sender = ("journal", self.draws.randrange(self.journals))
            body = getattr(self, word)()
        return self.manager.handle(sender, body), self.model.handle(sender, body)

    def state(self):
        value = None if self.manager.log is None else self.manager.log.value()
        return self.manager.role, self.manager.epoch, self.manager.seen, value, self.manager.commit


class RowsTest(unittest.TestCase):
    def test_6_3_to_6_15_long_rows(self):
        # How often the manager was in each role, and how often it sent each word.
        seen = {}
        for seed in range(120):
            row = Row(seed)
            for step in range(250):
                found, wanted = row.step()
                with self.subTest(seed=seed, step=step):
                    self.assertEqual(found, wanted)
                    self.assertEqual(row.state(), row.model.state())
                    self.assertEqual(row.manager.resend(), row.model.resend())
                for word in [row.model.role] + [body[0] for _, body in found]:
                    seen[word] = seen.get(word, 0) + 1
            self.assertEqual(Tape(row.disk.clone()).entries(), [("epoch", epoch) for epoch in row.model.used])
        words = ("idle", "asking", "syncing", "leading", "promise", "sync", "edit", "purge", "ping", "answer", "value")
        self.assertEqual([word for word in words if seen[word] < 200], [])


if __name__ == "__main__":
    unittest.main()

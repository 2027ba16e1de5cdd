"""A second account of 6.1 to 6.15 of the document, plain and slow, to compare the program with."""

from tests.model import ModelSpace


class ModelManager:
    """A manager that keeps lists of what it was told and counts them anew each time.

    `pasts` is a dict from images to the records for which they stand; `to_image` makes an image of records.
    """

    def __init__(self, number, managers, journals, pasts, to_image):
        self.number, self.managers, self.journals = number, managers, journals
        self.pasts, self.to_image = pasts, to_image
        self.used = []
        self.restart()

    def restart(self):
        self.epoch = self.seen = max(self.used, default=0)
        self.forget()

    def forget(self):
        self.role = "idle"
        self.promises, self.lengths, self.reads = [], [], []
        self.past, self.tail, self.image, self.done, self.tokens = [], [], None, 0, 0

    @property
    def log_value(self):
        if self.role in ("idle", "asking"):
            return None
        return (len(self.past), self.image, tuple(self.tail))

    @property
    def length(self):
        return len(self.past) + len(self.tail)

    @property
    def commit(self):
        return self.done if self.role == "leading" else 0

    def state(self):
        return self.role, self.epoch, self.seen, self.log_value, self.commit

    def needed(self):
        return min(count for count in range(self.journals + 1) if 2 * count > self.journals)

    def to_all(self, body):
        return [(("journal", journal), body) for journal in range(self.journals)]

    def space(self):
        space = ModelSpace()
        answers = [space.apply(record) for record in (self.past + self.tail)[:self.done]]
        return space, answers

    def campaign(self):
        self.forget()
        self.epoch = self.seen + 1
        while self.epoch % self.managers != self.number:
            self.epoch += 1
        self.seen = self.epoch
        self.used.append(self.epoch)
        self.role = "asking"
        return self.to_all(("promise", self.epoch))

    def handle(self, sender, body):
        kind, number = sender
        if body[0] == "refused":
            self.seen = max(self.seen, body[2])
            if body[2] > self.epoch:
                self.forget()
            return []
        if kind == "journal" and body[1] != self.epoch:
            return []
        rest = body[2:] if kind == "journal" else body[1:]
        return getattr(self, f"{self.role}_{body[0]}", lambda *_: [])(number, *rest)

    def asking_promised(self, journal, log_epoch, value):
        if journal in [told[2] for told in self.promises]:
            return []
        self.promises.append((log_epoch, value[0] + len(value[2]), journal, value))
        if len(self.promises) < self.needed():
            return []
        best = sorted(self.promises, key=lambda told: (-told[0], -told[1], told[2]))[0][3]
        self.past, self.tail, self.image = list(self.pasts[best[1]]), list(best[2]), best[1]
        self.role = "syncing"
        return self.to_all(("sync", self.epoch, best))

    def syncing_synced(self, journal, length):
        self.lengths.append((journal, length))
        if len(set(told[0] for told in self.lengths)) >= self.needed():
            self.role = "leading"
            self.done = self.length
        return []

    def told(self, journal):
        return max([length for other, length in self.lengths if other == journal], default=None)

    def leading_synced(self, journal, length):
        self.lengths.append((journal, length))
        before = self.done
        for number in range(before + 1, self.length + 1):
            reached = [journal for journal in range(self.journals) if (self.told(journal) or 0) >= number]
            if len(reached) >= self.needed():
                self.done = number
        records = (self.past + self.tail)[before:self.done]
        answers = self.space()[1][before:]
        return [(("client", record[0]), ("answer", record[1], answer)) for record, answer in zip(records, answers)]

    def leading_ponged(self, journal, token):
        for read in list(self.reads):
            if read[0] == token:
                read[4].add(journal)
                if len(read[4]) >= self.needed():
                    self.reads.remove(read)
                    answer = self.space()[0].tree.answer(read[3])
                    return [(("client", read[1]), ("value", read[2], self.done, answer))]
        return []

    def leading_request(self, client, serial, deed):
        space = self.space()[0]
        applied = space.serials.get(client, 0)
        behind = [record[1] for record in (self.past + self.tail)[self.done:] if record[0] == client]
        last = ([applied] + behind)[-1]
        if serial == last + 1:
            self.tail.append((client, serial, deed))
            return self.to_all(("edit", self.epoch, self.length, (self.tail[-1],)))
        if serial == last == applied:
            return [(("client", client), ("answer", serial, space.answers[client]))]
        return []

    def leading_read(self, client, rid, query):
        self.tokens += 1
        self.reads.append((self.tokens, client, rid, query, set()))
        return self.to_all(("ping", self.epoch, self.tokens))

    def checkpoint(self):
        if self.role != "leading" or self.done == len(self.past):
            return []
        records = self.past + self.tail
        self.past, self.tail = records[:self.done], records[self.done:]
        self.image = self.to_image(self.past)
        self.pasts[self.image] = list(self.past)
        return self.to_all(("purge", self.epoch, self.done, self.image))

    def missing(self, journal):
        if self.role == "asking":
            return None if journal in [told[2] for told in self.promises] else ("promise", self.epoch)
        if self.role == "idle":
            return None
        told = self.told(journal)
        if told is None:
            return ("sync", self.epoch, self.log_value)
        if told < len(self.past):
            return ("purge", self.epoch, len(self.past), self.image)
        records = tuple((self.past + self.tail)[told:])
        return ("edit", self.epoch, told + 1, records) if records else None

    def resend(self):
        pairs = [(("journal", journal), self.missing(journal)) for journal in range(self.journals)]
        pairs = [pair for pair in pairs if pair[1] is not None]
        for read in self.reads:
            pairs += [pair for pair in self.to_all(("ping", self.epoch, read[0])) if pair[0][1] not in read[4]]
        return pairs

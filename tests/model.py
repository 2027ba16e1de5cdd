"""A second account of parts 4 and 5.1 to 5.8 of the document, plain and slow, to compare the program with."""

import random

WORDS = ("mkdir", "create", "append", "seal", "move", "snapshot", "limit")
NAME_CHARS = "abcdefghijklmnopqrstuvwxyz0123456789-."


def names_in(path):
    """The names of a path as a tuple, or None if it is no path."""
    if path == "/":
        return ()
    parts = path.split("/")
    names = tuple(parts[1:])
    if parts[0] != "" or not 1 <= len(names) <= 6:
        return None
    for name in names:
        if not 1 <= len(name) <= 12 or name in (".", "..") or set(name) - set(NAME_CHARS):
            return None
    return names


class ModelTree:
    """Each node has its whole path; nothing else tells where it is."""

    def __init__(self):
        self.paths = {0: ()}
        self.limits = {0: None}
        self.pieces = {}
        self.sealed = {}

    def at(self, names):
        found = [number for number, own in self.paths.items() if own == names]
        return found[0] if found else None

    def look_up(self, names):
        for count in range(len(names)):
            if self.at(names[:count]) in self.pieces:
                return "kind"
            if self.at(names[:count + 1]) is None:
                return "missing"
        return self.at(names)

    def below(self, number):
        """The nodes below a node, and the node itself."""
        names = self.paths[number]
        return [other for other, own in self.paths.items() if own[:len(names)] == names]

    def above(self, number):
        names = self.paths[number]
        return [self.at(names[:count]) for count in range(len(names) - 1, -1, -1)]

    def size(self, number):
        files = [other for other in self.below(number) if other in self.pieces]
        return sum(len(piece[3]) for other in files for piece in self.pieces[other])

    def height(self, number):
        return max(len(self.paths[other]) for other in self.below(number)) - len(self.paths[number])

    def state(self):
        return self.paths, self.limits, self.pieces, self.sealed

    def bad_place(self, names):
        if names == ():
            return "exists"
        parent = self.look_up(names[:-1])
        if isinstance(parent, str):
            return parent
        if parent in self.pieces:
            return "kind"
        return "exists" if self.at(names) is not None else None

    def overfull(self, numbers, more):
        return any(self.limits[at] is not None and self.limits[at] < self.size(at) + more for at in numbers)

    def new_node(self, names):
        self.paths[len(self.paths)] = names
        return len(self.paths) - 1

    def form(self, deed):
        if deed[0] not in WORDS:
            return False
        kinds = [int if isinstance(item, int) else str for item in deed[1:]]
        if deed[0] in ("mkdir", "create", "seal"):
            return kinds == [str]
        if deed[0] == "limit":
            return kinds == [str, int] and deed[2] >= 0
        return kinds == [str, str]

    def apply(self, stamp, deed):
        if not self.form(deed):
            return ("refused", "deed")
        told = [deed[1]] + ([deed[2]] if deed[0] in ("move", "snapshot") else [])
        if None in [names_in(path) for path in told]:
            return ("refused", "path")
        answer = getattr(self, "do_" + deed[0])(stamp, names_in(deed[1]), *deed[2:])
        return ("refused", answer) if isinstance(answer, str) else answer

    def do_mkdir(self, stamp, names):
        word = self.bad_place(names)
        if word or len(self.paths) == 64:
            return word or "full"
        number = self.new_node(names)
        self.limits[number] = None
        return ("made", number)

    def do_create(self, stamp, names):
        word = self.bad_place(names)
        if word or len(self.paths) == 64:
            return word or "full"
        number = self.new_node(names)
        self.pieces[number] = []
        self.sealed[number] = False
        return ("made", number)

    def do_append(self, stamp, names, text):
        found = self.look_up(names)
        if isinstance(found, str):
            return found
        if found not in self.pieces:
            return "kind"
        if self.sealed[found]:
            return "sealed"
        if text == "":
            return "empty"
        if self.overfull(self.above(found), len(text)):
            return "limit"
        offset = self.size(found)
        self.pieces[found].append((*stamp, text))
        return ("written", stamp[0], found, offset)

    def do_seal(self, stamp, names):
        found = self.look_up(names)
        if isinstance(found, str):
            return found
        if found not in self.pieces:
            return "kind"
        if self.sealed[found]:
            return "sealed"
        self.sealed[found] = True
        return ("sealed", found, self.size(found))

    def do_move(self, stamp, names, path):
        new = names_in(path)
        if names == ():
            return "root"
        found = self.look_up(names)
        if isinstance(found, str):
            return found
        if new[:len(names)] == names:
            return "within"
        word = self.bad_place(new)
        if word:
            return word
        if any(len(new) + len(self.paths[at]) - len(names) > 6 for at in self.below(found)):
            return "deep"
        to_be_above = [self.at(new[:count]) for count in range(len(new))]
        entered = [at for at in to_be_above if at not in self.above(found)]
        if self.overfull(entered, self.size(found)):
            return "limit"
        for at in self.below(found):
            self.paths[at] = new + self.paths[at][len(names):]
        return ("moved", found)

    def do_snapshot(self, stamp, names, path):
        new = names_in(path)
        found = self.look_up(names)
        if isinstance(found, str):
            return found
        if found not in self.pieces:
            return "kind"
        word = self.bad_place(new)
        if word:
            return word
        if len(self.paths) == 64:
            return "full"
        if self.overfull([self.at(new[:count]) for count in range(len(new))], self.size(found)):
            return "limit"
        number = self.new_node(new)
        self.pieces[number] = list(self.pieces[found])
        self.sealed[number] = True
        return ("made", number)

    def do_limit(self, stamp, names, most):
        found = self.look_up(names)
        if isinstance(found, str):
            return found
        if found in self.pieces:
            return "kind"
        if self.size(found) > most:
            return "limit"
        self.limits[found] = most
        return ("limited", found, self.size(found))

    def answer(self, query):
        if not isinstance(query, tuple) or len(query) != 2:
            return ("refused", "deed")
        word, item = query
        if word == "content" and isinstance(item, int):
            if item not in self.paths:
                return ("refused", "missing")
            if item not in self.pieces:
                return ("refused", "kind")
            return ("content", item, int(self.sealed[item]), tuple(self.pieces[item]))
        if word not in ("find", "names") or not isinstance(item, str):
            return ("refused", "deed")
        if names_in(item) is None:
            return ("refused", "path")
        found = self.look_up(names_in(item))
        if isinstance(found, str):
            return ("refused", found)
        if word == "find":
            return ("node", found, int(found in self.pieces), self.size(found))
        if found in self.pieces:
            return ("refused", "kind")
        count = len(self.paths[found]) + 1
        return ("names", tuple(sorted(own[-1] for own in self.paths.values()
                                      if len(own) == count and own[:-1] == self.paths[found])))


class ModelSpace:
    def __init__(self):
        self.tree = ModelTree()
        self.applied = 0
        self.serials = {}
        self.answers = {}

    def apply(self, record):
        client, serial, deed = record
        self.applied += 1
        if serial != self.serials.get(client, 0) + 1:
            return ("skipped",)
        self.serials[client] = serial
        self.answers[client] = self.tree.apply((self.applied, client, serial), deed)
        return self.answers[client]


class ModelJournal:
    """A journal whose log is a base, an image and a dict from numbers to records."""

    def __init__(self, image):
        self.promise = 0
        self.epoch = 0
        self.base = 0
        self.image = image
        self.records = {}

    @property
    def length(self):
        return max(self.records, default=self.base)

    def log_value(self):
        return (self.base, self.image, tuple(self.records[number] for number in sorted(self.records)))

    def state(self):
        return self.promise, self.epoch, self.log_value()

    def handle(self, body):
        word, epoch, *rest = body
        refusal = ("refused", epoch, self.promise)
        if epoch < self.promise:
            return refusal
        if word == "ping":
            return ("ponged", epoch, *rest)
        if word == "promise":
            if epoch == self.epoch:
                return refusal
            self.promise = epoch
            return ("promised", epoch, self.epoch, self.log_value())
        if word == "sync":
            if epoch > self.epoch:
                self.promise = self.epoch = epoch
                self.base, self.image, records = rest[0]
                self.records = {self.base + 1 + at: record for at, record in enumerate(records)}
        elif epoch != self.epoch:
            return refusal
        elif word == "edit":
            first, records = rest
            for number, record in enumerate(records, first):
                if number == self.length + 1:
                    self.records[number] = record
        elif rest[0] > self.base:
            self.base, self.image = rest
            self.records = {number: self.records[number] for number in self.records if number > self.base}
        return ("synced", epoch, self.length)


def random_path(chooser, model, wanted=None):
    """A path: mostly one at which there is what is wanted, a file, a directory or nothing."""
    if chooser.random() < 0.03:
        return chooser.choice(["", "a", "//", "/a/", "/A", "/.", "/a" * 7])
    if chooser.random() < 0.2:
        wanted = chooser.choice(("file", "directory", "nothing"))
    numbers = list(model.limits) if wanted != "file" or not model.pieces else list(model.pieces)
    names = model.paths[chooser.choice(numbers)]
    if wanted == "nothing" or chooser.random() < 0.05:
        names += tuple(chooser.choices("abcdefgh", k=chooser.choice((1, 1, 1, 1, 1, 1, 2))))
    return "/" + "/".join(names[:6])


def random_deed(chooser, model):
    word = chooser.choice(WORDS + ("mkdir", "create", "append", "append", "move"))
    if chooser.random() < 0.02:
        path = random_path(chooser, model)
        return chooser.choice([("mkdir",), (word, 1), (word, path, path, path), ("limit", path, -1), ("link", path)])
    if word in ("mkdir", "create"):
        return (word, random_path(chooser, model, "nothing"))
    if word == "move":
        source = random_path(chooser, model, chooser.choice(("file", "directory")))
        return (word, source, random_path(chooser, model, "nothing"))
    if word == "limit":
        most = chooser.choice((0, 5, 150, 300, 600, 1000, 2000, 4000, 10 ** 18))
        return (word, random_path(chooser, model, "directory"), most)
    path = random_path(chooser, model, "file")
    if word == "append":
        return (word, path, chooser.choice(["", "x", "yy", "two words", "z" * 100, "~" * 200]))
    if word == "snapshot":
        return (word, path, random_path(chooser, model, "nothing"))
    return (word, path)


def random_deeds(seed, count):
    """Deeds of which many meet what the earlier ones have led to."""
    chooser = random.Random(seed)
    model = ModelTree()
    deeds = []
    for number in range(count):
        deeds.append(random_deed(chooser, model))
        model.apply((number, 0, number), deeds[-1])
    return deeds


def random_queries(seed, count, model):
    chooser = random.Random(seed)
    queries = []
    for _ in range(count):
        word = chooser.choice(("content", "find", "names"))
        queries.append((word, chooser.randrange(-2, 70) if word == "content" else random_path(chooser, model)))
    return queries

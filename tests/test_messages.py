import itertools
import unittest

from appendhall.messages import is_body, is_machine, is_message
from tests.samples import BEYOND, FAR, MOST, nested, odd_things

KINDS = ("journal", "manager", "client")
LOG = (4, "image", ())
RECORDS = ((0, 1, ("seal", "/a")),)
DEED = ("append", "/a", "x")

# The word, the sender, the receiver, and the kinds of the items behind the word.
FORMS = [
    ("promise", "manager", "journal", ["number"]),
    ("sync", "manager", "journal", ["number", "log"]),
    ("edit", "manager", "journal", ["number", "from 1", "tuple"]),
    ("purge", "manager", "journal", ["number", "number", "any"]),
    ("ping", "manager", "journal", ["number", "number"]),
    ("promised", "journal", "manager", ["number", "number", "log"]),
    ("synced", "journal", "manager", ["number", "number"]),
    ("ponged", "journal", "manager", ["number", "number"]),
    ("refused", "journal", "manager", ["number", "number"]),
    ("request", "client", "manager", ["from 1", "deed"]),
    ("read", "client", "manager", ["from 1", "deed"]),
    ("answer", "manager", "client", ["from 1", "any"]),
    ("value", "manager", "client", ["from 1", "number", "any"]),
]

STRANGE = [thing for thing in odd_things() if not isinstance(thing, (list, dict))] + ["", "x", 5, (), ((),), nested(50)]

GOOD = {
    "number": [0, 1, 2, 7, MOST - 1, MOST],
    "from 1": [1, 2, 7, MOST - 1, MOST],
    "log": [LOG, (0, (), ()), (MOST, None, RECORDS), (4, object(), (None, 5, "x")), (0, nested(40), ((),))],
    "tuple": [(), RECORDS, (None,), (1, "x", object()), nested(50)],
    "deed": [DEED, ("x",), ("find", "/"), ("a", MOST, -MOST, ""), ("content", -1)],
    "any": STRANGE,
}

NO_NUMBERS = [-1, -MOST, *BEYOND, "1", "", (1,), *odd_things()]

BAD = {
    "number": NO_NUMBERS,
    "from 1": [0] + NO_NUMBERS,
    "log": odd_things() + [5, "x", (), (4, "image"), (4, "image", (), ()), (-1, "image", ()), (True, "image", ()),
                           (MOST + 1, "image", ()), ("4", "image", ()), (4, "image", []), (4, "image", "x"),
                           (4, "image", None), (None, "image", ()), [4, "image", ()], ((), "image", ())],
    "tuple": [thing for thing in odd_things() if not isinstance(thing, tuple)] + [5, "x", [RECORDS[0]]],
    "deed": odd_things() + [5, "append", (), ("",), (1,), ("a", 1, 2, 3, 4), ("a", None), ("a", True), ("a", ()),
                            ("a", MOST + 1), ("a", "\n"), ("\x25",), ("x" * 201,), ["append", "/a", "x"], ((), "a")],
    "any": [],
}


def sample(kind):
    return GOOD[kind][-1] if kind == "any" else GOOD[kind][0]


def bodies():
    """A body of each form, with its sender and receiver."""
    return [(word, source, target, (word,) + tuple(sample(kind) for kind in kinds)) for word, source, target, kinds in FORMS]


class BodyTest(unittest.TestCase):
    def check(self, source, target, body, wanted):
        self.assertIs(is_body(source, target, body), wanted)
        self.assertIs(is_message(((source, 0), (target, 3), body)), wanted)

    def test_the_examples(self):
        self.assertIs(is_body("manager", "journal", ("ping", 4, 1)), True)
        self.assertIs(is_message((("journal", 0), ("journal", 1), ("ping", 4, 1))), False)

    def test_8_2_the_thirteen_forms(self):
        self.assertEqual(len(FORMS), 13)
        for word, source, target, body in bodies():
            with self.subTest(word=word):
                self.check(source, target, body, True)

    def test_8_2_each_item_of_each_kind(self):
        for word, source, target, kinds in FORMS:
            for at, kind in enumerate(kinds):
                for things, wanted in ((GOOD[kind], True), (BAD[kind], False)):
                    for thing in things:
                        items = [sample(other) for other in kinds]
                        items[at] = thing
                        self.check(source, target, (word, *items), wanted)

    def test_8_2_an_item_too_few_and_too_many(self):
        for word, source, target, body in bodies():
            for count in range(len(body)):
                self.check(source, target, body[:count], False)
            for thing in (0, 1, (), "x", DEED, None):
                self.check(source, target, body + (thing,), False)
                self.check(source, target, body + (thing, thing), False)

    def test_8_2_other_senders_and_receivers(self):
        others = KINDS + ("", "journals", "Manager", "x", "number")
        for word, source, target, body in bodies():
            for one, other in itertools.product(others, repeat=2):
                self.assertIs(is_body(one, other, body), (one, other) == (source, target))

    def test_8_2_other_first_words(self):
        for word, source, target, body in bodies():
            for first in ["", word + " ", word.upper(), word[:-1], "link", "x" * 201, 0, 1, ("ping",), None, *odd_things()]:
                for one, other in itertools.product(KINDS, repeat=2):
                    self.check(one, other, (first,) + body[1:], False)

    def test_8_2_a_word_with_the_items_of_another_form(self):
        shapes = {word: kinds for word, _, _, kinds in FORMS}
        for word, source, target, kinds in FORMS:
            for other, body in [(row[0], row[3]) for row in bodies()]:
                if len(shapes[other]) != len(kinds):
                    self.check(source, target, (word,) + body[1:], False)

    def test_8_2_objects_that_are_no_bodies(self):
        for thing in odd_things() + [(), 5, "ping", ["ping", 4, 1], ((),), (("ping", 4, 1),)]:
            for one, other in itertools.product(KINDS, repeat=2):
                self.check(one, other, thing, False)


class MachineTest(unittest.TestCase):
    def test_8_1_machines(self):
        for kind in KINDS:
            for number in (0, 1, 7, 100, MOST):
                self.assertIs(is_machine((kind, number)), True)

    def test_8_1_other_kinds(self):
        for kind in ["", "Journal", "journals", "journa", "machine", "number", "x" * 300, 0, 1, (), ("journal",), *odd_things()]:
            self.assertIs(is_machine((kind, 0)), False)

    def test_8_1_other_numbers(self):
        for kind, number in itertools.product(KINDS, NO_NUMBERS + [(), ("journal", 0)]):
            self.assertIs(is_machine((kind, number)), False)

    def test_8_1_other_lengths_and_objects(self):
        for thing in odd_things() + [(), ("journal",), ("journal", 0, 0), (0, "journal"), "journal", 5, ["journal", 0],
                                     (("journal", 0),), "jo", (("journal", 0), ("journal", 0)), FAR]:
            self.assertIs(is_machine(thing), False)


class MessageTest(unittest.TestCase):
    def test_8_2_messages_between_all_machines(self):
        for word, source, target, body in bodies():
            for one, other in itertools.product(KINDS, repeat=2):
                wanted = (one, other) == (source, target)
                self.assertIs(is_message(((one, 0), (other, MOST), body)), wanted)

    def test_8_2_other_lengths(self):
        good = (("manager", 0), ("journal", 1), ("ping", 4, 1))
        self.assertIs(is_message(good), True)
        for thing in [(), good[:1], good[:2], good + (0,), good + good, (good,), good[::-1], list(good)]:
            self.assertIs(is_message(thing), False)

    def test_8_2_no_machines(self):
        good = (("manager", 0), ("journal", 1), ("ping", 4, 1))
        for at in (0, 1):
            kind = good[at][0]
            for thing in odd_things() + [(), (kind,), (kind, -1), (kind, True), (kind, MOST + 1), (kind, "0"), ("x", 0),
                                         (kind, 0, 0), kind, 0, [kind, 0], (None, 0)]:
                parts = list(good)
                parts[at] = thing
                self.assertIs(is_message(tuple(parts)), False)

    def test_8_2_objects_that_are_no_tuples(self):
        for thing in odd_things() + [0, "message", FAR, "abc"]:
            self.assertIs(is_message(thing), False)


if __name__ == "__main__":
    unittest.main()

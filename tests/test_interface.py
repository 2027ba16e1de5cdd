"""The names and arguments of the interface, each in the file under which the document lists it."""

import importlib
import inspect
import unittest

from appendhall.client import Client
from appendhall.disk import Disk
from appendhall.election import Election
from appendhall.hall import Hall
from appendhall.journal import Journal
from appendhall.log import Log
from appendhall.manager import Manager
from appendhall.network import Network
from appendhall.reads import Reads
from appendhall.replication import Replication

FUNCTIONS = {
    "values": {
        "is_integer": "(thing)", "is_number": "(thing)", "is_text": "(thing)", "is_value": "(thing)",
        "depth": "(value)",
    },
    "words": {"to_words": "(value)", "take_value": "(words, at)", "from_words": "(words)"},
    "frames": {
        "frame_blocks": "(generation, number, words)",
        "read_frame": "(disk, at, generation, number)",
    },
    "records": {"is_deed": "(thing)", "is_record": "(thing)"},
    "quorum": {
        "majority": "(count)", "has_majority": "(members, count)", "commit_point": "(matched, count)",
        "best": "(candidates)",
    },
    "paths": {"split_path": "(path)", "join_path": "(names)", "is_within": "(path, other)"},
    "deeds": {"apply_deed": "(tree, stamp, deed)"},
    "queries": {"answer_query": "(tree, query)"},
    "images": {"tree_image": "(tree)", "tree_from_image": "(image)"},
    "epochs": {"owner": "(epoch, managers)", "next_epoch": "(seen, number, managers)"},
    "replay": {"replay": "(log)", "tail_serial": "(log, space, client)"},
    "commands": {"parse_command": "(line)", "format_command": "(deed)"},
    "messages": {
        "is_machine": "(thing)", "is_message": "(thing)", "is_body": "(sender, receiver, body)",
    },
    "scenario": {"perform": "(hall, deed)", "run": "(hall, deeds)"},
    "settle": {"settle": "(hall)"},
    "recovery": {"recover": "(disks, *, journals)"},
    "audit": {"audit": "(events, space)"},
}

CLASSES = {
    "disk": {
        "Disk": {
            "__init__": "(self)", "write": "(self, at, block)", "read": "(self, at)", "sync": "(self)",
            "lose_power": "(self, fates)", "arm": "(self, fates, *, after=0)", "disarm": "(self)",
            "stored": "(self)", "clone": "(self)",
            "pending": property, "armed": property, "extent": property,
        },
    },
    "tape": {
        "Tape": {
            "__init__": "(self, disk)", "append": "(self, value)", "sync": "(self)", "rewrite": "(self, values)",
            "entries": "(self)", "__len__": "(self)", "__iter__": "(self)",
            "generation": property, "end": property,
        },
    },
    "log": {
        "Log": {
            "__init__": "(self, base, image, records)", "__len__": "(self)", "__iter__": "(self)",
            "record": "(self, number)", "after": "(self, number)", "with_record": "(self, record)",
            "joined": "(self, first, records)", "cut": "(self, number, image)", "agrees": "(self, other)",
            "value": "(self)", "from_value": "static (value)", "length": property,
        },
    },
    "nodes": {
        "File": {
            "__init__": "(self)", "add_piece": "(self, piece)", "seal": "(self)", "sealed_copy": "(self)",
            "pieces": property, "sealed": property, "length": property,
        },
        "Directory": {
            "__init__": "(self)", "set_limit": "(self, most)", "names": "(self)", "child": "(self, name)",
            "put": "(self, name, number)", "take": "(self, name)", "limit": property,
        },
    },
    "tree": {
        "Tree": {
            "__init__": "(self)", "__len__": "(self)", "node": "(self, number)",
            "attach": "(self, parent, name, node)", "move_node": "(self, number, parent, name)",
            "look_up": "(self, names)", "names_of": "(self, number)", "above": "(self, number)",
            "size_of": "(self, number)", "height_of": "(self, number)",
        },
    },
    "space": {
        "Space": {
            "__init__": "(self)", "apply": "(self, record)", "last_serial": "(self, client)",
            "last_answer": "(self, client)", "query": "(self, query)", "to_image": "(self)",
            "from_image": "static (value)", "applied": property,
        },
    },
    "journal": {
        "Journal": {"__init__": "(self, number, disk)", "handle": "(self, body)", "log": property},
    },
    "election": {
        "Election": {
            "__init__": "(self, journals)", "note": "(self, journal, epoch, log)", "promised": "(self, journal)",
            "decided": "(self)", "choice": "(self)",
        },
    },
    "replication": {
        "Replication": {
            "__init__": "(self, epoch, log, journals)", "note": "(self, journal, length)",
            "matched": "(self, journal)", "synced": "(self)", "commit_point": "(self)", "put": "(self, record)",
            "cut": "(self, number, image)", "sync_body": "(self)", "missing": "(self, journal)", "log": property,
        },
    },
    "reads": {
        "Reads": {
            "__init__": "(self, journals)", "ask": "(self, client, rid, query)", "note": "(self, token, journal)",
            "unanswered": "(self)",
        },
    },
    "manager": {
        "Manager": {
            "__init__": "(self, number, disk, *, managers, journals)", "campaign": "(self)",
            "handle": "(self, sender, body)", "checkpoint": "(self)", "resend": "(self)",
            "log": property, "commit": property,
        },
    },
    "client": {
        "Client": {
            "__init__": "(self, number, disk)", "ask": "(self, deed)", "look": "(self, query)", "request": "(self)",
            "read": "(self)", "handle": "(self, body)",
        },
    },
    "network": {
        "Network": {
            "__init__": "(self)", "send": "(self, message)", "message": "(self, number)", "drop": "(self, number)",
            "numbers": "(self)", "__len__": "(self)", "__iter__": "(self)",
        },
    },
    "book": {
        "Book": {
            "__init__": "(self)", "note": "(self, event)", "events": "(self)", "__len__": "(self)", "__iter__": "(self)",
        },
    },
    "hall": {
        "Hall": {
            "__init__": "(self, *, journals=3, managers=2, clients=2)", "machines": "(self)", "intact": "(self)",
            "is_up": "(self, machine)", "running": "(self, machine)", "disk": "(self, machine)",
            "ask": "(self, client, deed)", "look": "(self, client, query)", "send": "(self, client, manager)",
            "campaign": "(self, manager)", "resend": "(self, manager)", "checkpoint": "(self, manager)",
            "deliver": "(self, number)", "drop": "(self, number)", "stop": "(self, machine)", "start": "(self, machine)",
            "arm": "(self, machine, fates, *, after=0)", "disarm": "(self, machine)", "destroy": "(self, journal)",
        },
    },
}

# The fields of new objects.
FIELDS = [
    (lambda: Journal(5, Disk()), {"number": 5, "promise": 0, "epoch": 0}),
    (lambda: Election(3), {"journals": 3}),
    (lambda: Replication(4, Log(0, "", ()), 3), {"epoch": 4, "journals": 3}),
    (lambda: Reads(3), {"journals": 3}),
    (lambda: Manager(1, Disk(), managers=2, journals=3),
     {"number": 1, "managers": 2, "journals": 3, "role": "idle", "epoch": 0, "seen": 0}),
    (lambda: Client(4, Disk()), {"number": 4, "serial": 0, "deed": None, "rid": 0}),
    (lambda: Network(), {"sent": 0}),
    (lambda: Hall(), {"counts": {"journal": 3, "manager": 2, "client": 2}}),
]


class InterfaceTest(unittest.TestCase):
    def test_functions(self):
        for module, functions in FUNCTIONS.items():
            for name, signature in functions.items():
                with self.subTest(module=module, name=name):
                    function = getattr(importlib.import_module("appendhall." + module), name)
                    self.assertEqual(function.__module__, "appendhall." + module)
                    self.assertEqual(str(inspect.signature(function)), signature)

    def test_classes(self):
        for module, classes in CLASSES.items():
            for name, members in classes.items():
                found = getattr(importlib.import_module("appendhall." + module), name)
                self.assertEqual(found.__module__, "appendhall." + module)
                for member, wanted in members.items():
                    with self.subTest(module=module, name=name, member=member):
                        self.check_member(vars(found)[member], wanted)

    def test_fields(self):
        for make, fields in FIELDS:
            thing = make()
            with self.subTest(name=type(thing).__name__):
                self.assertEqual({name: vars(thing)[name] for name in fields}, fields)

    def check_member(self, member, wanted):
        if wanted is property:
            self.assertIsInstance(member, property)
        elif wanted.startswith("static "):
            self.assertIsInstance(member, staticmethod)
            self.assertEqual("static " + str(inspect.signature(member.__func__)), wanted)
        else:
            self.assertTrue(inspect.isfunction(member))
            self.assertEqual(str(inspect.signature(member)), wanted)


if __name__ == "__main__":
    unittest.main()

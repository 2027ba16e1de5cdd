import unittest

from appendhall.records import is_deed, is_record
from tests.samples import BEYOND, FAR, INTEGERS, MOST, NO_TEXTS, TEXTS, nested, odd_things

DEEDS = [
    ("seal", "/notes"), ("append", "/notes", "first"), ("a",), (" ",), ("x" * 200,), ("limit", "/", MOST),
    ("limit", "/", -MOST), ("a", 1, "b", 2), ("a", "", "", ""), ("a", 0, 0, 0), ("no path", "", -5),
]


class DeedsTest(unittest.TestCase):
    def check(self, function, things, wanted):
        for at, thing in enumerate(things):
            with self.subTest(at=at):
                self.assertIs(function(thing), wanted)

    def test_3_1_deeds(self):
        self.check(is_deed, DEEDS, True)
        self.check(is_deed, [("a", item) for item in INTEGERS + TEXTS], True)
        self.check(is_deed, [("a", 1, 2, item) for item in INTEGERS + TEXTS], True)

    def test_3_1_the_count_of_items(self):
        self.check(is_deed, [("a",) * count for count in (1, 2, 3, 4)], True)
        self.check(is_deed, [()] + [("a",) * count for count in (5, 6, 12, 13, 1000)], False)

    def test_3_1_the_first_item(self):
        self.check(is_deed, [(text, "/a") for text in TEXTS if text != ""], True)
        self.check(is_deed, [("",), ("", "/a"), ("", 1, 2, 3)], False)
        self.check(is_deed, [(item, "/a") for item in INTEGERS + BEYOND + NO_TEXTS + odd_things()], False)
        self.check(is_deed, [(item,) for item in INTEGERS + NO_TEXTS + [(), ("a",)] + odd_things()], False)

    def test_3_1_the_other_items(self):
        wrong = BEYOND + NO_TEXTS + [(), ("a",), nested(59)] + odd_things()
        for ahead, behind in (((), ()), ((1,), ()), ((), ("b",)), ((1, "b"), ()), ((), (1, "b"))):
            self.check(is_deed, [("a", *ahead, item, *behind) for item in wrong], False)

    def test_3_1_other_things(self):
        things = [["a"], ["seal", "/notes"], "seal", {"seal": 1}, 5, (("seal", "/notes"),), nested(60, "a")]
        self.check(is_deed, things + INTEGERS + TEXTS + odd_things(), False)

    def test_3_2_the_examples(self):
        self.assertIs(is_record((0, 1, ("append", "/notes", "first"))), True)
        self.assertIs(is_record((0, 0, ("seal", "/notes"))), False)

    def test_3_2_records(self):
        self.check(is_record, [(3, 4, deed) for deed in DEEDS], True)
        self.check(is_record, [(client, 1, ("a",)) for client in (0, 1, 7, MOST - 1, MOST)], True)
        self.check(is_record, [(0, serial, ("a",)) for serial in (1, 2, MOST - 1, MOST)], True)

    def test_3_2_clients(self):
        wrong = [-1, -2, -MOST, MOST + 1, FAR, -FAR, "", "0", (), (0,)] + odd_things()
        self.check(is_record, [(client, 1, ("a",)) for client in wrong], False)

    def test_3_2_serials(self):
        wrong = [0, -1, -MOST, MOST + 1, FAR, -FAR, "", "1", (), (1,)] + odd_things()
        self.check(is_record, [(0, serial, ("a",)) for serial in wrong], False)

    def test_3_2_the_deed_of_a_record(self):
        wrong = [(), ("",), (1,), ("a",) * 5, ("a", ()), ["a"], "a", 5, ("a", None), nested(59)] + odd_things()
        self.check(is_record, [(0, 1, deed) for deed in wrong], False)

    def test_3_2_the_count_of_items(self):
        self.check(is_record, [(), (0,), (0, 1), (0, 1, ("a",), 0), (0, 1, ("a",), ("a",)), (0, 1, "a", "b")], False)

    def test_3_2_other_things(self):
        self.check(is_record, [[0, 1, ("a",)], "abc", {0: 1}, ("a",)] + INTEGERS + TEXTS + odd_things(), False)


if __name__ == "__main__":
    unittest.main()
